import PyProof.Rows.All
import Wide.All
import OpenK.AllK
import Wide.FinOn
import Lean
import PyProof.EqAt
import PyProof.EqKinds
import PyProof.TupleCall
import PyProof.StrLawsRepr
import PySem.Challenge.RW_wakefew_k19_whole_far_jumps
set_option compiler.extract_closed false
set_option Elab.async false
set_option linter.all false
set_option maxRecDepth 100000
namespace L2
open PySem PySem.Spec PyProof.Rows
abbrev Key := Sum Int Str
def keyIs : Key -> Value -> Bool
 | .inl k, v => Value.isInt k v
 | .inr x, v => Value.isStrOf x v
def keyH (w : World) : Key -> Int
 | .inl k => hashInt k
 | .inr x => hashStr w x
theorem keyIs_shape : ∀ {k : Key} {v : Value}, keyIs k v = true -> (∃ i t, k = Sum.inl i /\ v = Value.int i t) \/ (∃ x t, k = Sum.inr x /\ v = Value.str x t)
 | .inl i, v, h => by
   obtain ⟨t, e⟩ := Value.isInt_shape (k := i) (v := v) h
   exact .inl ⟨i, t, rfl, e⟩
 | .inr x, v, h => by
   obtain ⟨t, e⟩ := Value.isStrOf_shape (x := x) (v := v) h
   exact .inr ⟨x, t, rfl, e⟩
theorem keyIs_int (i : Int) (t : Tok) : keyIs (.inl i) (.int i t) = true := by simp [keyIs, Value.isInt]
theorem keyIs_str (x : Str) (t : Tok) : keyIs (.inr x) (.str x t) = true := by simp [keyIs, Value.isStrOf]
theorem key_ll (a b : Int) : decide ((Sum.inl a : Key) = Sum.inl b) = (a == b) := by
 by_cases e : a = b
 . subst e; simp
 . have h : ¬ (Sum.inl a : Key) = Sum.inl b := fun q => e (Sum.inl.inj q)
   rw [decide_eq_false h]
   exact (beq_eq_false_iff_ne.mpr e).symm
theorem key_rr (a b : Str) : decide ((Sum.inr a : Key) = Sum.inr b) = decide (a = b) := by
 by_cases e : a = b
 . subst e; simp
 . have h : ¬ (Sum.inr a : Key) = Sum.inr b := fun q => e (Sum.inr.inj q)
   rw [decide_eq_false h, decide_eq_false e]
theorem key_lr (a : Int) (b : Str) : decide ((Sum.inl a : Key) = Sum.inr b) = false := decide_eq_false (fun q => nomatch q)
theorem key_rl (a : Str) (b : Int) : decide ((Sum.inr a : Key) = Sum.inl b) = false := decide_eq_false (fun q => nomatch q)
def mixKind (prog : Program) (w : World) : PySem.KeyKind prog w Key where
 is := keyIs
 hash := keyH w
 inj := fun v a b ha hb => by
  rcases keyIs_shape ha with ⟨i, t, rfl, rfl⟩ | ⟨x, t, rfl, rfl⟩
  . rcases keyIs_shape hb with ⟨j, u, rfl, e⟩ | ⟨y, u, rfl, e⟩
    . injection e with e1 _; rw [e1]
    . exact nomatch e
  . rcases keyIs_shape hb with ⟨j, u, rfl, e⟩ | ⟨y, u, rfl, e⟩
    . exact nomatch e
    . injection e with e1 _; rw [e1]
 byValue := fun k v h => by
  rcases keyIs_shape h with ⟨i, t, rfl, rfl⟩ | ⟨x, t, rfl, rfl⟩ <;> rfl
 pyHash := fun hv h => by
  rcases keyIs_shape hv with ⟨i, t, rfl, rfl⟩ | ⟨x, t, rfl, rfl⟩
  . exact wpAny_pyHash_int h
  . exact wpAny_pyHash_str h
 eqBool := fun hu hv h => by
  rcases keyIs_shape hu with ⟨i, t, rfl, rfl⟩ | ⟨x, t, rfl, rfl⟩
  . rcases keyIs_shape hv with ⟨j, u, rfl, rfl⟩ | ⟨y, u, rfl, rfl⟩
    . rw [key_ll] at h; exact wpAny_eqBool_int h
    . rw [key_lr] at h; exact SeqAt.EqAt.int_str i t y u _ _ _ _ h
  . rcases keyIs_shape hv with ⟨j, u, rfl, rfl⟩ | ⟨y, u, rfl, rfl⟩
    . rw [key_rl] at h; exact SeqAt.EqAt.str_int x t j u _ _ _ _ h
    . rw [key_rr] at h; exact wpAny_eqBool_str h
 «strs» := fun k x t v h => by
  rcases keyIs_shape h with ⟨i, u, rfl, e⟩ | ⟨y, u, rfl, e⟩
  . exact nomatch e
  . injection e with e1 _
    subst e1
    cases v <;> rfl
theorem mixKind_int (prog : Program) (w : World) (i : Int) (t : Tok) : (mixKind prog w).is (.inl i) (.int i t) = true := keyIs_int i t
theorem mixKind_str (prog : Program) (w : World) (x : Str) (t : Tok) : (mixKind prog w).is (.inr x) (.str x t) = true := keyIs_str x t
inductive V where
 | non | bl (b : Bool) | int (i : Int) | str (x : Str) | byt (b : Array UInt8) | flt (b : UInt64) | ref (a : Addr) | ty (n : String)
 deriving DecidableEq
def RelV : V -> Value -> Prop
 | .non, u => u = Value.none
 | .bl b, u => u = Value.bool b
 | .int i, u => ∃ t, u = Value.int i t
 | .str x, u => ∃ t, u = Value.str x t
 | .byt b, u => ∃ t, u = Value.bytes b t
 | .flt b, u => ∃ t, u = Value.float b t
 | .ref a, u => u = Value.ref a
 | .ty n, u => u = Value.type n
abbrev Vals : List V -> List Value -> Prop := Paired RelV
theorem Vals.length {xs : List V} {us : List Value} (r : Vals xs us) : xs.length = us.length := Paired.length r
theorem Vals.get : ∀ {xs : List V} {us : List Value} {i : Nat} {x : V}, Vals xs us -> xs[i]? = some x -> ∃ u, us[i]? = some u /\ RelV x u
 | _, _, _, _, .nil, e => by simp at e
 | _, _, 0, _, .cons r _, e => by simp at e; subst e; exact ⟨_, rfl, r⟩
 | _, _, i + 1, x, .cons _ t, e => by
   obtain ⟨u, h1, h2⟩ := Vals.get (i := i) (x := x) t (by simpa using e)
   exact ⟨u, by simpa using h1, h2⟩
theorem Vals.append : ∀ {xs ys : List V} {us ws : List Value}, Vals xs us -> Vals ys ws -> Vals (xs ++ ys) (us ++ ws)
 | _, _, _, _, .nil, s => s
 | _, _, _, _, .cons r t, s => .cons r (Vals.append t s)
theorem Vals.take : ∀ {xs : List V} {us : List Value} (n : Nat), Vals xs us -> Vals (xs.take n) (us.take n)
 | _, _, 0, _ => .nil
 | _, _, _ + 1, .nil => .nil
 | _, _, n + 1, .cons r t => .cons r (Vals.take n t)
theorem Vals.drop : ∀ {xs : List V} {us : List Value} (n : Nat), Vals xs us -> Vals (xs.drop n) (us.drop n)
 | _, _, 0, r => r
 | _, _, _ + 1, .nil => .nil
 | _, _, n + 1, .cons _ t => Vals.drop n t
def RelO : Option V -> Option Value -> Prop
 | some v, some u => RelV v u
 | none, none => True
 | _, _ => False
def KV {κ : Type} : List (κ × V) -> List (κ × Value) -> Prop := Paired fun (p : κ × V) (q : κ × Value) => p.1 = q.1 /\ RelV p.2 q.2
def kV : Key -> V
 | .inl i => .int i
 | .inr x => .str x
inductive HO where
 | lst (xs : List V)
 | tup (xs : List V)
 | dK (kvs : List (Key × V)) | dT (kvs : List (List Key × V))
 | set (S : Int -> Bool) (n : Nat)
 | ins (C dx : Addr) (fs : List (Str × V))
 | own (x : Addr)
 | xd (fs : List (Str × V))
 | met (f x : Addr)
 | rng (lo hi : Int)
 | frz (o : Obj) (u : HO)
 | tbl (ps : Array Value)
 | ext (φ : Heap -> Prop)
abbrev Hp := Addr -> Option HO
def upd (H : Hp) (a : Addr) (o : HO) : Hp := fun b => if b = a then some o else H b
theorem upd_same {H : Hp} {a : Addr} {o : HO} : upd H a o a = some o := by unfold upd; rw [if_pos rfl]
theorem upd_ne {H : Hp} {a b : Addr} {o : HO} (h : b ≠ a) : upd H a o b = H b := by unfold upd; rw [if_neg h]
theorem upd_upd {H : Hp} {a : Addr} {o u : HO} : upd (upd H a o) a u = upd H a u := by
 funext b; unfold upd; split <;> rfl
theorem ne_of {H : Hp} {a b : Addr} {o u : HO} (h : H a = some o) (h' : H b = some u) (d : o ≠ u) : a ≠ b := by
 intro e; subst e; rw [h] at h'; exact d (Option.some.inj h')
theorem ne_of_none {H : Hp} {a b : Addr} {o : HO} (h : H a = some o) (h' : H b = none) : a ≠ b := by
 intro e; subst e; rw [h] at h'; cases h'
section
variable (P : Program) (w : World)
def ObjOk (H : Hp) (h : Heap) (a : Addr) : HO -> Prop
 | .lst xs => xs.length <= sizeLine /\ ∃ (its : List Value) (n : Nat), Vals xs its /\ h.get? a = some { cls := .type "list", data := .seq its.toArray n }
 | .tup xs => xs.length <= sizeLine /\ ∃ its : List Value, Vals xs its /\ IsTup h a its.toArray
 | .dK kvs => kvs.length <= sizeLine /\ (a == sysModules) = false /\ ∃ vs, KV kvs vs /\ h.DictOf (mixKind P w) a vs
 | .dT kvs => kvs.length <= sizeLine /\ (a == sysModules) = false /\ ∃ xs : List (List Key × Addr × Value),
  Paired (fun (p : List Key × V) (q : List Key × Addr × Value) => p.1 = q.1 /\ H q.2.1 = some (.tup (p.1.map kV)) /\ RelV p.2 q.2.2) kvs xs /\
  ∃ o es ep, h.get? a = some o /\ o.ExactDict /\ o.data = .dict es ep /\ es.toList = xs.map (entryOfKey (tupleKind (mixKind P w))) /\ (xs.map (·.1)).Nodup
 | .set S n => h.SetOf (intKind P w) a S n
 | .ins C dx fs => H dx = some (.own a) /\ fs.length <= 1000 /\ dx ≠ a /\ h.get? a = some (PySem.W.instObj C dx) /\
  ∃ mA, h.Ns1 dx mA /\ (∀ f, RelO (fs.lookup f) (mA f)) /\ PySem.Within mA (fs.map (·.1))
 | .own _ => ∃ o, h.get? a = some o
 | .xd fs => ∃ mA, h.Ns1 a mA /\ ∀ f, RelO (fs.lookup f) (mA f)
 | .rng lo hi => ∃ t u v, h.get? a = some { cls := .type "range", data := .fields #[.int lo t, .int hi u, .int 1 v] }
 | .frz o u => h.get? a = some o /\ ObjOk H h a u
 | .tbl ps => h.get? a = some { cls := .none, data := .fields ps }
 | .met f x => h.get? a = some (PySem.W.methodObj (.ref f) (.ref x))
 | .ext φ => φ h /\ (∃ o, h.get? a = some o) /\ ∀ h1 h2 : Heap, φ h1 -> (∀ o, h1.get? a = some o -> h2.get? a = some o) -> φ h2
def HOk (H : Hp) (h : Heap) : Prop := ∀ a o, H a = some o -> ObjOk P w H h a o
end
section
variable {P : Program} {w : World} {H H' : Hp} {h h' : Heap} {a : Addr} {o : HO}
theorem ObjOk.lt (x : ObjOk P w H h a o) : a < h.objs.size := by
 cases o with
 | lst xs => obtain ⟨_, _, _, _, e⟩ := x; exact Heap.lt_size e
 | tup xs => obtain ⟨_, _, _, p⟩ := x; exact p.lt
 | dK kvs => obtain ⟨_, _, _, _, o, _, _, e, _⟩ := x; exact Heap.lt_size e
 | dT kvs => obtain ⟨_, _, _, _, o, _, _, e, _⟩ := x; exact Heap.lt_size e
 | set S n => obtain ⟨o, _, _, _, e, _⟩ := x; exact Heap.lt_size e
 | ins C dx fs => obtain ⟨_, _, _, e, _⟩ := x; exact Heap.lt_size e
 | own y => obtain ⟨_, e⟩ := x; exact Heap.lt_size e
 | xd fs => obtain ⟨_, ⟨_, _, _, e, _⟩, _⟩ := x; exact Heap.lt_size e
 | rng lo hi => obtain ⟨_, _, _, e⟩ := x; exact Heap.lt_size e
 | frz ob u => obtain ⟨e, _⟩ := x; exact Heap.lt_size e
 | tbl ps => exact Heap.lt_size (show h.get? a = some _ from x)
 | met f y => exact Heap.lt_size (show h.get? a = some _ from x)
 | ext φ => obtain ⟨_, ⟨_, e⟩, _⟩ := x; exact Heap.lt_size e
theorem Paired.mapP {α β : Type} {F G : α -> β -> Prop} : ∀ {l₁ : List α} {l₂ : List β}, Paired F l₁ l₂ -> (∀ a b, F a b -> G a b) -> Paired G l₁ l₂
 | _, _, .nil, _ => .nil
 | _, _, .cons r t, f => .cons (f _ _ r) (Paired.mapP t f)
theorem ObjOk.stay (x : ObjOk P w H h a o) (k : ∀ b u, (b = a \/ H b = some (.own a)) -> h.get? b = some u -> h'.get? b = some u)
 (ho : ∀ b, H b = some (.own a) -> H' b = some (.own a)) (ht : ∀ b xs, H b = some (.tup xs) -> H' b = some (.tup xs)) : ObjOk P w H' h' a o := by
 induction o with
 | lst xs => obtain ⟨z, its, n, r, e⟩ := x; exact ⟨z, its, n, r, k _ _ (.inl rfl) e⟩
 | tup xs => obtain ⟨z, its, r, ob, e, c⟩ := x; exact ⟨z, its, r, ob, k _ _ (.inl rfl) e, c⟩
 | dK kvs => obtain ⟨z, y, vs, r, ob, es, ep, e, c⟩ := x; exact ⟨z, y, vs, r, ob, es, ep, k _ _ (.inl rfl) e, c⟩
 | dT kvs =>
   obtain ⟨z, y, xs, r, ob, es, ep, e, c⟩ := x
   exact ⟨z, y, xs, Paired.mapP r fun p q z => ⟨z.1, ht _ _ z.2.1, z.2.2⟩, ob, es, ep, k _ _ (.inl rfl) e, c⟩
 | set S n => obtain ⟨ob, es, ep, t, e, c⟩ := x; exact ⟨ob, es, ep, t, k _ _ (.inl rfl) e, c⟩
 | ins C dx fs =>
   obtain ⟨d, z, ne, e, mA, ⟨od, es, ep, e2, c⟩, r⟩ := x
   exact ⟨ho _ d, z, ne, k _ _ (.inl rfl) e, mA, ⟨od, es, ep, k _ _ (.inr d) e2, c⟩, r⟩
 | own y => obtain ⟨ob, e⟩ := x; exact ⟨ob, k _ _ (.inl rfl) e⟩
 | xd fs => obtain ⟨mA, ⟨od, es, ep, e, c⟩, r⟩ := x; exact ⟨mA, ⟨od, es, ep, k _ _ (.inl rfl) e, c⟩, r⟩
 | rng lo hi => obtain ⟨t, u, v, e⟩ := x; exact ⟨t, u, v, k _ _ (.inl rfl) e⟩
 | frz ob u ih => obtain ⟨e, q⟩ := x; exact ⟨k _ _ (.inl rfl) e, ih q⟩
 | tbl ps =>
   have e : h.get? a = some { cls := .none, data := .fields ps } := x
   show h'.get? a = some { cls := .none, data := .fields ps }
   exact k a _ (.inl rfl) e
 | met f y =>
   have e : h.get? a = some (PySem.W.methodObj (.ref f) (.ref y)) := x
   show h'.get? a = some (PySem.W.methodObj (.ref f) (.ref y))
   exact k a _ (.inl rfl) e
 | ext φ => obtain ⟨p, ⟨o, e⟩, st⟩ := x; exact ⟨st _ _ p fun o q => k _ _ (.inl rfl) q, ⟨o, k _ _ (.inl rfl) e⟩, st⟩
theorem HOk.lt (x : HOk P w H h) (e : H a = some o) : a < h.objs.size := (x a o e).lt
theorem HOk.fresh (x : HOk P w H h) (e : h.objs.size <= a) : H a = none := by
 cases q : H a with
 | none => rfl
 | some u => exact absurd (Nat.lt_of_lt_of_le (x.lt q) e) (Nat.lt_irrefl _)
theorem HOk.kept (x : HOk P w H h) (k : ∀ b u, h.get? b = some u -> h'.get? b = some u) : HOk P w H h' := fun a o e =>
 (x a o e).stay (fun b u _ q => k b u q) (fun _ q => q) fun _ _ q => q
theorem HOk.laid (x : HOk P w H h) (k : ∀ b u, h.get? b = some u -> h'.get? b = some u) (hp : h.objs.size <= a) (new : ObjOk P w (upd H a o) h' a o) : HOk P w (upd H a o) h' := fun b u e => by
 have hn := x.fresh hp
 by_cases hb : b = a
 . subst hb; rw [upd_same] at e; cases e; exact new
 . rw [upd_ne hb] at e
   exact (x b u e).stay (fun c v _ q => k c v q) (fun c q => by rw [upd_ne (ne_of_none q hn)]; exact q) fun c xs q => by rw [upd_ne (ne_of_none q hn)]; exact q
end
def Rd (H : Hp) (a : Addr) (u : HO) : Prop := H a = some u \/ ∃ o, H a = some (.frz o u)
theorem Rd.of {H : Hp} {a : Addr} {u : HO} (h : H a = some u) : Rd H a u := .inl h
theorem Rd.ok {P : Program} {w : World} {H : Hp} {h : Heap} {a : Addr} {u : HO} (r : Rd H a u) (x : HOk P w H h) : ObjOk P w H h a u := by
 rcases r with r | ⟨o, r⟩
 . exact x a u r
 . obtain ⟨_, q⟩ := x a _ r
   exact q
def Mut : Option HO -> Prop
 | some (.lst _) => True
 | some (.dK _) => True
 | some (.dT _) => True
 | some (.set _ _) => True
 | some (.ins _ _ _) => True
 | some (.ext _) => True
 | _ => False
section
variable {P : Program} {w : World} {H : Hp} {h h' : Heap} {x e : Addr} {o' : HO}
theorem HOk.write (ok : HOk P w H h) (mu : Mut (H x)) (he : e = x \/ H e = some (.own x)) (k : ∀ b u, b ≠ e -> h.get? b = some u -> h'.get? b = some u) (heo : ∃ u, h'.get? e = some u)
 (new : ObjOk P w (upd H x o') h' x o') : HOk P w (upd H x o') h' := fun b u q => by
 have nown : ∀ c y, H c = some (.own y) -> c ≠ x := fun c y r z => by subst z; rw [r] at mu; exact mu
 have ntup : ∀ c xs, H c = some (.tup xs) -> c ≠ x := fun c xs r z => by subst z; rw [r] at mu; exact mu
 by_cases hb : b = x
 . subst hb; rw [upd_same] at q; cases q; exact new
 . rw [upd_ne hb] at q
   by_cases hbe : b = e
   . have q' : H b = some (.own x) := by
      rcases he with z | z
      . exact absurd (hbe.trans z) hb
      . rw [hbe]; exact z
     rw [q] at q'; cases q'
     obtain ⟨v, hv⟩ := heo
     exact ⟨v, by rw [hbe]; exact hv⟩
   . refine (ok b u q).stay (fun c v hc r => k c v ?_ r) (fun c r => by rw [upd_ne (nown c b r)]; exact r) fun c xs r => by rw [upd_ne (ntup c xs r)]; exact r
     rcases hc with rfl | hc
     . exact hbe
     . rintro rfl
       rcases he with z | z
       . exact nown c b hc z
       . rw [hc] at z; cases z; exact hb rfl
end
structure Un (fs ex : List Addr) (H H' : Hp) (h h' : Heap) : Prop where
 keep : ∀ b o, h.get? b = some o -> H b = none -> b ∉ fs -> b ∉ ex -> h'.get? b = some o
 slot : ∀ b o, h.get? b = some o -> H b = none -> b ∈ fs -> b ∉ ex -> ∃ sl, h'.get? b = some { o with slots := sl }
 free : ∀ b o, h.get? b = some o -> H b = none -> b ∉ ex -> H' b = none
 there : ∀ b o, h.get? b = some o -> b ∉ ex -> ∃ o', h'.get? b = some o'
 tups : ∀ b xs, H b = some (.tup xs) -> H' b = some (.tup xs)
 frzs : ∀ b o u, H b = some (.frz o u) -> H' b = some (.frz o u)
 tbls : ∀ b ps, H b = some (.tbl ps) -> ∃ more, H' b = some (.tbl (ps ++ more))
section
variable {fs fs' ex ex' : List Addr} {H H1 H2 : Hp} {h h1 h2 h' : Heap} {a x e : Addr} {o : HO}
theorem Un.any (u : Un fs ex H H1 h h1) {b : Addr} {ob : Obj} (q : h.get? b = some ob) (n : H b = none) (hx : b ∉ ex) : ∃ sl, h1.get? b = some { ob with slots := sl } := by
 by_cases hb : b ∈ fs
 . exact u.slot b ob q n hb hx
 . exact ⟨ob.slots, u.keep b ob q n hb hx⟩
theorem Un.kept (k : ∀ b u, h.get? b = some u -> h'.get? b = some u) : Un fs ex H H h h' :=
 ⟨fun b ob q _ _ _ => k b ob q, fun b ob q _ _ _ => ⟨ob.slots, k b ob q⟩, fun _ _ _ n _ => n, fun b ob q _ => ⟨ob, k b ob q⟩, fun _ _ q => q, fun _ _ _ q => q, fun _ ps q => ⟨#[], by rw [q]; simp⟩⟩
theorem Un.refl : Un fs ex H H h h := Un.kept fun _ _ q => q
theorem Un.laid (k : ∀ b u, h.get? b = some u -> h'.get? b = some u) (hp : h.objs.size <= a) (hn : H a = none) : Un fs ex H (upd H a o) h h' where
 keep := fun b u q _ _ _ => k b u q
 slot := fun b u q _ _ _ => ⟨u.slots, k b u q⟩
 free := fun b u q n _ => by rw [upd_ne (Nat.ne_of_lt (Nat.lt_of_lt_of_le (Heap.lt_size q) hp))]; exact n
 there := fun b u q _ => ⟨u, k b u q⟩
 tups := fun b xs q => by rw [upd_ne (ne_of_none q hn)]; exact q
 frzs := fun b u xs q => by rw [upd_ne (ne_of_none q hn)]; exact q
 tbls := fun b ps q => ⟨#[], by rw [upd_ne (ne_of_none q hn), q]; simp⟩
theorem Un.write (mu : Mut (H x)) (he : e = x \/ H e = some (.own x)) (k : ∀ b u, b ≠ e -> h.get? b = some u -> h'.get? b = some u) (heo : ∃ u, h'.get? e = some u) : Un fs ex H (upd H x o) h h' := by
 have hx : ∀ b, H b = none -> b ≠ x := fun b n z => by subst z; rw [n] at mu; exact mu
 have hb : ∀ b, H b = none -> b ≠ e := fun b n z => by
  subst z
  rcases he with r | r
  . exact hx b n r
  . rw [n] at r; cases r
 have hm : ∀ b u, H b = some u -> ¬ Mut (some u) -> b ≠ x := fun b u q nm z => by subst z; rw [q] at mu; exact nm mu
 refine ⟨fun b u q n _ _ => k b u (hb b n) q, fun b u q n _ _ => ⟨u.slots, k b u (hb b n) q⟩, fun b u q n _ => by rw [upd_ne (hx b n)]; exact n, fun b u q _ => ?_,
  fun b xs q => by rw [upd_ne (hm b _ q fun z => z)]; exact q, fun b u xs q => by rw [upd_ne (hm b _ q fun z => z)]; exact q, fun b ps q => ⟨#[], by rw [upd_ne (hm b _ q fun z => z), q]; simp⟩⟩
 by_cases hbe : b = e
 . subst hbe; exact heo
 . exact ⟨u, k b u hbe q⟩
end
def trk (h : Heap) (H : Hp) : List Addr := (List.range h.objs.size).filter fun a => (H a).isSome
def hidT (h : Heap) (H : Hp) : Heap := PySem.W.hideAll h (trk h H)
theorem hidT_size (h : Heap) (H : Hp) : (hidT h H).objs.size = h.objs.size := PySem.W.hideAll_size _ _
theorem hidT_get {h : Heap} {H : Hp} {b : Addr} {o : Obj} (e : h.get? b = some o) (n : H b = none) : (hidT h H).get? b = some o :=
 PySem.W.hideAll_get _ e fun hm => by
  have q : (H b).isSome = true := (List.mem_filter.mp hm).2
  rw [n] at q; simp at q
theorem of_hidT {h : Heap} {H : Hp} {b : Addr} {o : Obj} (e : (hidT h H).get? b = some o) : h.get? b = some o /\ H b = none := by
 have e' : h.get? b = some o := PySem.W.of_hideAll (trk h H) e
 refine ⟨e', ?_⟩
 cases q : H b with
 | none => rfl
 | some x =>
   have hm : b ∈ trk h H := List.mem_filter.mpr ⟨List.mem_range.mpr (Heap.lt_size e'), by simp [q]⟩
   have z : (hidT h H).get? b = none := PySem.W.hideAll_none (trk h H) hm
   rw [z] at e; cases e
def allNews (g h : Heap) (L : Addr) : List (Addr × Obj) := (List.range h.objs.size).filterMap fun a => if a = L \/ (g.get? a).isSome = true then none else (h.get? a).map fun o => (a, o)
def rest (g h : Heap) (L d : Addr) : List (Addr × Obj) := (allNews g h L).filter fun p => decide (p.1 ≠ d)
structure Mod (K : PySem.W.Frag) (mg : Str -> Option Value) (base : Heap) : Prop where
 kin : K.In base
 glob : base.Ns mainGlobals mg
 blt : ∃ mb, base.Ns builtinsNs mb /\ ∀ x : Str, x ≠ "__name__" -> mb x = bootBuiltins x
 nolimit : base.NoLimit
structure Cx where
 prog : Program
 w : World
 K : PySem.W.Frag
 mg : Str -> Option Value
 base : Heap
 A : Around
 N : List Str
 s₀ : Shared
 H₀ : Hp
 env : Env
 outer : List Env
 stack : List Env
 ex : List Addr
 fn : Str -> Bool
 calm : Bool
 pn : List (Addr × Obj)
 xe : Value -> Shared -> Prop
def frs (l : List Env) : List Addr := l.filterMap (·.frame)
abbrev Cx.fs (X : Cx) : List Addr := frs X.outer
def Vis (sc : Scope) (x : Str) : Prop := sc.names.lookup x = some .local \/ sc.names.lookup x = some .cell \/ sc.names.lookup x = some .free
def Loc (sc : Scope) (x : Str) : Prop := sc.names.lookup x = some .local \/ sc.names.lookup x = some .cell
def Look (env : Env) (h : Heap) (m : Str -> Option Value) (x : Str) (u : Value) : Prop :=
 (env.kindOf x = some .local /\ m x = some u) \/ ((env.kindOf x = some .cell \/ env.kindOf x = some .free) /\ ∃ c, env.cells.lookup x = some c /\ h.IsCell c (some u))
structure Cx.Ok (X : Cx) : Prop where
 mod : Mod X.K X.mg X.base
 kind : X.env.scope.kind = .function
 glob : X.env.globals = mainGlobals
 blt : X.env.builtins = builtinsNs
 above : X.s₀.heap.objs.size <= X.env.locals
 inj : ∀ x y c, X.env.cells.lookup x = some c -> X.env.cells.lookup y = some c -> x = y
 has : ∀ x, (X.env.kindOf x = some .cell \/ X.env.kindOf x = some .free) -> ∃ c, X.env.cells.lookup x = some c
 cab : ∀ x c, X.fn x = true -> X.env.cells.lookup x = some c -> X.s₀.heap.objs.size <= c
 hd : X.calm = true -> X.A.handled = none
 frames : X.A.frames = some X.stack
 stk : X.stack = X.outer \/ (X.stack = X.env :: X.outer /\ X.env.frame = some X.env.locals)
 exf : ∀ b ∈ X.ex, b ≠ X.env.locals /\ ∀ x c, X.env.cells.lookup x = some c -> c ≠ b
 bs : ∀ b o, X.base.get? b = some o -> X.s₀.heap.get? b = some o /\ X.H₀ b = none
 bsz : X.base.objs.size <= X.s₀.heap.objs.size
 noex : ∀ b o, X.base.get? b = some o -> b ∉ X.ex
 exfs : ∀ b ∈ X.ex, b ∉ X.fs
 funs : X.s₀.heap.FunFrames X.base X.outer
 frf : ∀ b ∈ X.fs, X.H₀ b = none
structure Inv (X : Cx) (pins : List (Addr × Obj)) (σ : List (Option V)) (H : Hp) (s : Shared) : Prop where
 ok : X.Ok
 os : s.os = X.s₀.os
 bare : AllBare s.gens
 base : Un X.fs X.ex X.H₀ H X.s₀.heap s.heap
 loc : ∃ m, s.heap.Ns X.env.locals m /\ ∀ (i : Nat) (x : Str) (v : V), X.N[i]? = some x -> σ[i]? = some (some v) -> Vis X.env.scope x -> ∃ u, RelV v u /\ Look X.env s.heap m x u
 cell : ∀ x c, X.env.cells.lookup x = some c -> ∃ v, s.heap.IsCell c v
 free : H X.env.locals = none
 freeC : ∀ x c, X.env.cells.lookup x = some c -> H c = none
 pin : ∀ p ∈ X.pn ++ pins, s.heap.get? p.1 = some p.2 /\ H p.1 = none /\ p.1 ≠ X.env.locals /\ p.1 ∉ X.fs /\ ∀ v, p.2.data ≠ .cell v
 hok : HOk X.prog X.w H s.heap
 len : σ.length = X.N.length
section
variable {X : Cx} {pins : List (Addr × Obj)} {σ : List (Option V)} {H H' : Hp} {s : Shared} {h' : Heap}
theorem Cx.Ok.nofr (ok : X.Ok) {b : Addr} {o : Obj} (e : X.base.get? b = some o) : b ∉ X.fs := fun hb => by
 have := (ok.funs.mem hb).1
 rw [e] at this; cases this
theorem Inv.bs (I : Inv X pins σ H s) : ∀ b o, X.base.get? b = some o -> s.heap.get? b = some o /\ H b = none := fun b o e =>
 ⟨I.base.keep b o (I.ok.bs b o e).1 (I.ok.bs b o e).2 (I.ok.nofr e) (I.ok.noex b o e), I.base.free b o (I.ok.bs b o e).1 (I.ok.bs b o e).2 (I.ok.noex b o e)⟩
theorem Inv.bk (I : Inv X pins σ H s) : ∀ b o, X.base.get? b = some o -> s.heap.get? b = some o := fun b o e => (I.bs b o e).1
theorem Inv.mod (I : Inv X pins σ H s) : Mod X.K X.mg X.base := I.ok.mod
theorem Inv.kIn (I : Inv X pins σ H s) : X.K.In s.heap := I.ok.mod.kin.keeps I.bk
theorem Inv.fr (I : Inv X pins σ H s) : ∃ m, Fr X.base X.env.locals s.heap m :=
 let ⟨m, hn, _⟩ := I.loc
 ⟨m, hn, I.bk, Nat.le_trans I.ok.bsz I.ok.above⟩
theorem Inv.lt (I : Inv X pins σ H s) : X.env.locals < s.heap.objs.size := let ⟨_, hn, _⟩ := I.loc; hn.lt
theorem Inv.sz (I : Inv X pins σ H s) : X.s₀.heap.objs.size <= s.heap.objs.size := Nat.le_trans I.ok.above (Nat.le_of_lt I.lt)
theorem Inv.nofs (I : Inv X pins σ H s) {a : Addr} (h : s.heap.objs.size <= a) : a ∉ X.fs := fun hb => by
 obtain ⟨_, o, ho, _⟩ := I.ok.funs.mem hb
 exact absurd (Nat.lt_of_lt_of_le (Heap.lt_size ho) (Nat.le_trans I.sz h)) (Nat.lt_irrefl _)
theorem Inv.cne (I : Inv X pins σ H s) : ∀ x c, X.env.cells.lookup x = some c -> c ≠ X.env.locals := fun x c e z => by
 obtain ⟨v, o, ho, hd⟩ := I.cell x c e
 obtain ⟨m, ⟨o', es, ep, ho', hd', _⟩, _⟩ := I.loc
 rw [z, ho'] at ho; cases ho; rw [hd'] at hd; cases hd
theorem Inv.funs (I : Inv X pins σ H s) : s.heap.FunFrames X.base X.outer := by
 have all : ∀ (l : List Env), (∀ b ∈ frs l, b ∈ X.fs) -> X.s₀.heap.FunFrames X.base l -> s.heap.FunFrames X.base l := by
  intro l
  induction l with
  | nil => intro _ _; trivial
  | cons env r ih =>
    intro hs hl
    obtain ⟨hk, ⟨L, o, hf, hn, ho, hd⟩, hr⟩ := hl
    have hL : L ∈ X.fs := hs L (by unfold frs; rw [List.filterMap_cons, hf]; exact List.mem_cons_self)
    obtain ⟨sl, e⟩ := I.base.slot L o ho (I.ok.frf L hL) hL fun z => I.ok.exfs L z hL
    exact ⟨hk, ⟨L, _, hf, hn, e, hd⟩, ih (fun b hb => hs b (by unfold frs; rw [List.filterMap_cons, hf]; exact List.mem_cons_of_mem _ hb)) hr⟩
 exact all X.outer (fun _ hb => hb) I.ok.funs
theorem Inv.stack (I : Inv X pins σ H s) : s.heap.FunFrames X.base X.stack := by
 rcases I.ok.stk with e | ⟨e, hf⟩
 . rw [e]; exact I.funs
 . rw [e]
   obtain ⟨m, hn, _⟩ := I.loc
   refine .cons (by rw [I.ok.kind]; decide) hf hn ?_ I.funs
   exact Heap.get?_none_of_le (Nat.le_trans I.ok.bsz I.ok.above)
theorem Inv.stkSub (I : Inv X pins σ H s) : ∀ b ∈ frs X.stack, b ∈ X.env.locals :: X.fs := fun b hb => by
 rcases I.ok.stk with e | ⟨e, hf⟩
 . rw [e] at hb; exact List.mem_cons_of_mem _ hb
 . rw [e] at hb
   unfold frs at hb
   rw [List.filterMap_cons, hf] at hb
   exact hb
theorem Inv.stkFree (I : Inv X pins σ H s) : ∀ b ∈ frs X.stack, H b = none := fun b hb => by
 rcases List.mem_cons.mp (I.stkSub b hb) with e | hb
 . rw [e]; exact I.free
 . obtain ⟨_, o, ho, _⟩ := I.ok.funs.mem hb
   exact I.base.free b o ho (I.ok.frf b hb) fun z => I.ok.exfs b z hb
theorem Inv.step {g' : Array GenState} {t' : Nat} {d' : Drawn} {ch : List Addr} (I : Inv X pins σ H s)
 (hch : ∀ b ∈ ch, (b ∈ X.ex \/ X.s₀.heap.objs.size <= b) /\ b ≠ X.env.locals /\ (∀ x c, X.env.cells.lookup x = some c -> c ≠ b) /\ ∀ p ∈ X.pn ++ pins, p.1 ≠ b)
 (keep : ∀ b o, b ≠ X.env.locals -> b ∉ X.fs -> b ∉ ch -> s.heap.get? b = some o -> H b = none -> h'.get? b = some o)
 (slot : ∀ b o, b ≠ X.env.locals -> b ∈ X.fs -> b ∉ ch -> s.heap.get? b = some o -> H b = none -> ∃ sl, h'.get? b = some { o with slots := sl }) (free : ∀ b o, b ∉ ch -> s.heap.get? b = some o -> H b = none -> H' b = none)
 (there : ∀ b o, b ∉ ch -> s.heap.get? b = some o -> ∃ o', h'.get? b = some o')
 (tups : ∀ b xs, H b = some (.tup xs) -> H' b = some (.tup xs)) (frzs : ∀ b o u, H b = some (.frz o u) -> H' b = some (.frz o u)) (tbls : ∀ b ps, H b = some (.tbl ps) -> ∃ more, H' b = some (.tbl (ps ++ more)))
 (ns : ∀ m, s.heap.Ns X.env.locals m -> h'.Ns X.env.locals m) (hok : HOk X.prog X.w H' h') (hg : AllBare g') :
 Inv X pins σ H' { s with heap := h', gens := g', drawn := d', toks := t' } := by
 have neL : ∀ b o, X.s₀.heap.get? b = some o -> b ≠ X.env.locals := fun b o e => Nat.ne_of_lt (Nat.lt_of_lt_of_le (Heap.lt_size e) I.ok.above)
 have neC : ∀ b o, X.s₀.heap.get? b = some o -> b ∉ X.ex -> b ∉ ch := fun b o e hx hb => by
  rcases (hch b hb).1 with z | z
  . exact hx z
  . exact absurd (Nat.lt_of_lt_of_le (Heap.lt_size e) z) (Nat.lt_irrefl _)
 have cellK : ∀ x c, X.env.cells.lookup x = some c -> ∀ v, s.heap.IsCell c v -> h'.IsCell c v := fun x c e v ⟨o, ho, hd⟩ => by
  have nch : c ∉ ch := fun z => (hch c z).2.2.1 x c e rfl
  by_cases hc : c ∈ X.fs
  . obtain ⟨sl, q⟩ := slot c o (I.cne x c e) hc nch ho (I.freeC x c e)
    exact ⟨_, q, hd⟩
  . exact ⟨o, keep c o (I.cne x c e) hc nch ho (I.freeC x c e), hd⟩
 refine ⟨I.ok, I.os, hg, ⟨fun b o e n hb hx => ?_, fun b o e n hb hx => ?_, fun b o e n hx => ?_, fun b o e hx => ?_, fun b xs e => tups b xs (I.base.tups b xs e), fun b o xs e => frzs b o xs (I.base.frzs b o xs e), fun b ps e => ?_⟩, ?_, fun x c e => ?_, ?_, fun x c e => ?_, fun p hp => ?_, hok, I.len⟩
 . exact keep b o (neL b o e) hb (neC b o e hx) (I.base.keep b o e n hb hx) (I.base.free b o e n hx)
 . obtain ⟨sl, e1⟩ := I.base.slot b o e n hb hx
   obtain ⟨sl', e2⟩ := slot b _ (neL b o e) hb (neC b o e hx) e1 (I.base.free b o e n hx)
   exact ⟨sl', e2⟩
 . obtain ⟨o', e1⟩ := I.base.there b o e hx
   exact free b o' (neC b o e hx) e1 (I.base.free b o e n hx)
 . obtain ⟨o', e1⟩ := I.base.there b o e hx
   exact there b o' (neC b o e hx) e1
 . obtain ⟨m1, e1⟩ := I.base.tbls b ps e
   obtain ⟨m2, e2⟩ := tbls b _ e1
   exact ⟨m1 ++ m2, by rw [e2, Array.append_assoc]⟩
 . obtain ⟨m, hn, hl⟩ := I.loc
   refine ⟨m, ns m hn, fun i x v e1 e2 e3 => ?_⟩
   obtain ⟨u, r, l⟩ := hl i x v e1 e2 e3
   refine ⟨u, r, ?_⟩
   rcases l with l | ⟨k, c, e, z⟩
   . exact .inl l
   . exact .inr ⟨k, c, e, cellK x c e _ z⟩
 . obtain ⟨v, z⟩ := I.cell x c e
   exact ⟨v, cellK x c e v z⟩
 . obtain ⟨m, ⟨o, _, _, ho, _⟩, _⟩ := I.loc
   exact free _ o (fun z => (hch _ z).2.1 rfl) ho I.free
 . obtain ⟨v, o, ho, hd⟩ := I.cell x c e
   exact free c o (fun z => (hch c z).2.2.1 x c e rfl) ho (I.freeC x c e)
 . obtain ⟨e, n, ne, nf, d⟩ := I.pin p hp
   have nch : p.1 ∉ ch := fun z => (hch p.1 z).2.2.2 p hp rfl
   exact ⟨keep p.1 p.2 ne nf nch e n, free p.1 p.2 nch e n, ne, nf, d⟩
theorem Inv.un {t' : Nat} (I : Inv X pins σ H s) (u : Un X.fs [] H H' s.heap h') (hok : HOk X.prog X.w H' h') : Inv X pins σ H' { s with heap := h', toks := t' } := by
 obtain ⟨m, ⟨o, es, ep, ho, r⟩, _⟩ := id I.loc
 obtain ⟨sl, hL⟩ := u.any ho I.free (by simp)
 exact I.step (g' := s.gens) (d' := s.drawn) (ch := []) (fun _ z => nomatch z) (fun b o _ hb _ e n => u.keep b o e n hb (by simp)) (fun b o _ hb _ e n => u.slot b o e n hb (by simp)) (fun b o _ e n => u.free b o e n (by simp)) (fun b o _ e => u.there b o e (by simp)) u.tups u.frzs u.tbls (fun m' hm => by
  obtain ⟨o', es', ep', ho', r'⟩ := hm
  rw [ho] at ho'; cases ho'
  exact ⟨_, es', ep', hL, r'⟩) hok I.bare
theorem Inv.call {g' : Array GenState} {t' : Nat} {d' : Drawn} {ch : List Addr} (I : Inv X pins σ H s) (u : Un (frs X.stack) ch H H' s.heap h') (hok : HOk X.prog X.w H' h') (hg : AllBare g')
 (hch : ∀ b ∈ ch, (b ∈ X.ex \/ X.s₀.heap.objs.size <= b) /\ b ≠ X.env.locals /\ (∀ x c, X.env.cells.lookup x = some c -> c ≠ b) /\ ∀ p ∈ X.pn ++ pins, p.1 ≠ b) :
 Inv X pins σ H' { s with heap := h', gens := g', drawn := d', toks := t' } := by
 obtain ⟨m, ⟨o, es, ep, ho, r⟩, _⟩ := id I.loc
 obtain ⟨sl, hL⟩ := u.any ho I.free fun z => (hch _ z).2.1 rfl
 exact I.step (ch := ch) hch (fun b o hL hb hc e n => u.keep b o e n (fun z => (List.mem_cons.mp (I.stkSub b z)).elim hL hb) hc) (fun b o _ _ hc e n => u.any e n hc) (fun b o hc e n => u.free b o e n hc) (fun b o hc e => u.there b o e hc) u.tups u.frzs u.tbls (fun m' hm => by
  obtain ⟨o', es', ep', ho', r'⟩ := hm
  rw [ho] at ho'; cases ho'
  exact ⟨_, es', ep', hL, r'⟩) hok hg
theorem Inv.turned {t' : Nat} {it : Addr} (I : Inv X pins σ H s) (k : ∀ b o, b ≠ it -> s.heap.get? b = some o -> h'.get? b = some o) (hn : H it = none) (hL : it ≠ X.env.locals)
 (h1 : it ∈ X.ex \/ X.s₀.heap.objs.size <= it) (h2 : ∀ x c, X.env.cells.lookup x = some c -> c ≠ it) (h3 : ∀ p ∈ X.pn ++ pins, p.1 ≠ it) : Inv X pins σ H { s with heap := h', toks := t' } := by
 have nit : ∀ b u, H b = some u -> b ≠ it := fun b u e z => by rw [z, hn] at e; cases e
 refine I.step (g' := s.gens) (d' := s.drawn) (ch := [it]) (fun b hb => ?_) (fun b o _ _ hc e _ => k b o (fun z => hc (by simp [z])) e) (fun b o _ _ hc e _ => ⟨o.slots, k b o (fun z => hc (by simp [z])) e⟩) (fun _ _ _ _ n => n)
  (fun b o hc e => ⟨o, k b o (fun z => hc (by simp [z])) e⟩) (fun _ _ e => e) (fun _ _ _ e => e) (fun b ps e => ⟨#[], by rw [e]; simp⟩) (fun m hm => ?_) (fun b u e => ?_) I.bare
 . have e : b = it := by simpa using hb
   subst e
   exact ⟨h1, hL, h2, h3⟩
 . obtain ⟨o, es, ep, ho, r⟩ := hm
   exact ⟨o, es, ep, k _ o (Ne.symm hL) ho, r⟩
 . refine (I.hok b u e).stay (fun c v hc q => k c v ?_ q) (fun _ q => q) fun _ _ q => q
   rcases hc with z | z
   . rw [z]; exact nit b u e
   . exact nit c _ z
theorem Inv.tok (I : Inv X pins σ H s) (t : Nat) : Inv X pins σ H { s with toks := t } := I.un (h' := s.heap) (t' := t) Un.refl I.hok
theorem Inv.kept {t' : Nat} (I : Inv X pins σ H s) (k : ∀ b u, s.heap.get? b = some u -> h'.get? b = some u) : Inv X pins σ H { s with heap := h', toks := t' } := I.un (Un.kept k) (I.hok.kept k)
theorem Inv.laid {a : Addr} {o : HO} {t' : Nat} (I : Inv X pins σ H s) (k : ∀ b u, s.heap.get? b = some u -> h'.get? b = some u) (hp : s.heap.objs.size <= a) (new : ObjOk X.prog X.w (upd H a o) h' a o) :
 Inv X pins σ (upd H a o) { s with heap := h', toks := t' } := I.un (Un.laid k hp (I.hok.fresh hp)) (I.hok.laid k hp new)
theorem Inv.write {x e : Addr} {o : HO} {t' : Nat} (I : Inv X pins σ H s) (mu : Mut (H x)) (he : e = x \/ H e = some (.own x)) (k : ∀ b u, b ≠ e -> s.heap.get? b = some u -> h'.get? b = some u) (heo : ∃ u, h'.get? e = some u)
 (new : ObjOk X.prog X.w (upd H x o) h' x o) : Inv X pins σ (upd H x o) { s with heap := h', toks := t' } := I.un (Un.write mu he k heo) (I.hok.write mu he k heo new)
theorem Inv.weak {σ' : List (Option V)} (I : Inv X pins σ H s) (hl : σ'.length = σ.length) (w : ∀ (i : Nat) v, σ'[i]? = some (some v) -> σ[i]? = some (some v)) : Inv X pins σ' H s :=
 ⟨I.ok, I.os, I.bare, I.base, let ⟨m, hn, hl'⟩ := I.loc; ⟨m, hn, fun i x v e1 e2 e3 => hl' i x v e1 (w i v e2) e3⟩, I.cell, I.free, I.freeC, I.pin, I.hok, hl.trans I.len⟩
theorem Inv.pins_of {pins' : List (Addr × Obj)} (I : Inv X pins σ H s) (h : ∀ p ∈ pins', s.heap.get? p.1 = some p.2 /\ H p.1 = none /\ p.1 ≠ X.env.locals /\ p.1 ∉ X.fs /\ ∀ v, p.2.data ≠ .cell v) : Inv X pins' σ H s :=
 ⟨I.ok, I.os, I.bare, I.base, I.loc, I.cell, I.free, I.freeC, fun p hp => (List.mem_append.mp hp).elim (fun z => I.pin p (List.mem_append_left _ z)) (h p), I.hok, I.len⟩
theorem nodup_ix {N : List Str} (hN : N.Nodup) {i j : Nat} {x : Str} (a : N[i]? = some x) (b : N[j]? = some x) : i = j := by
 obtain ⟨h1, e1⟩ := List.getElem?_eq_some_iff.mp a
 obtain ⟨h2, e2⟩ := List.getElem?_eq_some_iff.mp b
 exact (List.getElem_inj hN).mp (e1.trans e2.symm)
theorem store_ok2 {M : Model} {A : Around} {E : Value -> Shared -> Prop} {i : Nat} {x : Str} {v : V} {u : Value} {Q : Unit -> Shared -> Prop} (I : Inv X pins σ H s) (hN : X.N.Nodup) (hi : X.N[i]? = some x) (hx : Loc X.env.scope x) (r : RelV v u)
 (h : ∀ s', Inv X pins (σ.set i (some v)) H s' -> (∃ a, Heap.SameBut a s.heap s'.heap /\ (a = X.env.locals \/ X.env.cells.lookup x = some a)) -> Q () s') (hf : X.fn x = true \/ X.env.scope.names.lookup x = some .local := by first | exact .inl rfl | exact .inr rfl | assumption) : wpAny M A (storeName X.env x u) Q E s := by
 obtain ⟨m, hn, hl⟩ := id I.loc
 have hcls : (X.env.scope.kind == .class || (X.env.scope.kind == .module && X.env.locals != X.env.globals)) = false := by rw [I.ok.kind]; rfl
 have hiσ : i < σ.length := by rw [I.len]; exact (List.getElem?_eq_some_iff.mp hi).1
 have cne := I.cne
 have tracked : ∀ {a : Addr} {h' : Heap}, (∃ o, s.heap.get? a = some o /\ H a = none) -> Heap.SameBut a s.heap h' -> HOk X.prog X.w H h' := fun {a h'} ha hs b ob e => by
  obtain ⟨_, _, hfree⟩ := ha
  refine (I.hok b ob e).stay (fun c w' hc q => (hs.2 c ?_).trans q) (fun _ q => q) fun _ _ q => q
  rintro rfl
  rcases hc with rfl | hc
  . rw [hfree] at e; cases e
  . rw [hfree] at hc; cases hc
 rcases hx with hk | hk
 . refine wpAny_storeName_local hk hn (fun h' hn' hs => ?_) hcls
   obtain ⟨oL, _, _, hoL, _⟩ := id hn
   refine h _ ⟨I.ok, I.os, I.bare, ⟨fun b o e n hb hx => ?_, fun b o e n hb hx => ?_, I.base.free, fun b o e hx => ?_, I.base.tups, I.base.frzs, I.base.tbls⟩, ⟨_, hn', fun j y v' e1 e2 e3 => ?_⟩, fun y c e => ?_, I.free, I.freeC, fun p hp => ?_, tracked ⟨oL, hoL, I.free⟩ hs, by simpa using I.len⟩ ⟨_, hs, .inl rfl⟩
   . exact (hs.2 b (Nat.ne_of_lt (Nat.lt_of_lt_of_le (Heap.lt_size e) I.ok.above))).trans (I.base.keep b o e n hb hx)
   . obtain ⟨sl, e1⟩ := I.base.slot b o e n hb hx
     exact ⟨sl, (hs.2 b (Nat.ne_of_lt (Nat.lt_of_lt_of_le (Heap.lt_size e) I.ok.above))).trans e1⟩
   . obtain ⟨o', e1⟩ := I.base.there b o e hx
     exact ⟨o', (hs.2 b (Nat.ne_of_lt (Nat.lt_of_lt_of_le (Heap.lt_size e) I.ok.above))).trans e1⟩
   . by_cases hj : j = i
     . subst hj
       rw [hi] at e1; cases e1
       rw [List.getElem?_set_self hiσ] at e2
       cases e2
       exact ⟨u, r, .inl ⟨hk, by simp⟩⟩
     . rw [List.getElem?_set_ne (Ne.symm hj)] at e2
       obtain ⟨u', r', q⟩ := hl j y v' e1 e2 e3
       refine ⟨u', r', ?_⟩
       rcases q with ⟨k, e⟩ | ⟨k, c, e, z⟩
       . refine .inl ⟨k, ?_⟩
         have : y ≠ x := fun e => hj (nodup_ix hN e1 (e ▸ hi))
         simp [this, e]
       . exact .inr ⟨k, c, e, z.sameBut hs (cne y c e)⟩
   . obtain ⟨w', z⟩ := I.cell y c e
     exact ⟨w', z.sameBut hs (cne y c e)⟩
   . obtain ⟨e, n, ne, nf, d⟩ := I.pin p hp
     exact ⟨(hs.2 p.1 ne).trans e, n, ne, nf, d⟩
 . have hfn : X.fn x = true := by
    rcases hf with z | z
    . exact z
    . rw [z] at hk; cases hk
   obtain ⟨c, hc⟩ := I.ok.has x (.inl hk)
   obtain ⟨w', z⟩ := I.cell x c hc
   refine wpAny_storeName_cell I.ok.kind hk hc z (fun h' hc' hs => ?_)
   obtain ⟨oc, hoc, hocd⟩ := id z
   refine h { s with heap := h' } ⟨I.ok, I.os, I.bare, ⟨fun b o e n hb hx => ?_, fun b o e n hb hx => ?_, I.base.free, fun b o e hx => ?_, I.base.tups, I.base.frzs, I.base.tbls⟩, ⟨m, hn.sameBut hs (Ne.symm (cne x c hc)), fun j y v' e1 e2 e3 => ?_⟩, fun y c' e => ?_, I.free, I.freeC, fun p hp => ?_, tracked ⟨oc, hoc, I.freeC x c hc⟩ hs, by simpa using I.len⟩ ⟨c, hs, .inr hc⟩
   . exact (hs.2 b (Nat.ne_of_lt (Nat.lt_of_lt_of_le (Heap.lt_size e) (I.ok.cab x c hfn hc)))).trans (I.base.keep b o e n hb hx)
   . obtain ⟨sl, e1⟩ := I.base.slot b o e n hb hx
     exact ⟨sl, (hs.2 b (Nat.ne_of_lt (Nat.lt_of_lt_of_le (Heap.lt_size e) (I.ok.cab x c hfn hc)))).trans e1⟩
   . obtain ⟨o', e1⟩ := I.base.there b o e hx
     exact ⟨o', (hs.2 b (Nat.ne_of_lt (Nat.lt_of_lt_of_le (Heap.lt_size e) (I.ok.cab x c hfn hc)))).trans e1⟩
   . by_cases hj : j = i
     . subst hj
       rw [hi] at e1; cases e1
       rw [List.getElem?_set_self hiσ] at e2
       cases e2
       exact ⟨u, r, .inr ⟨.inl hk, c, hc, hc'⟩⟩
     . rw [List.getElem?_set_ne (Ne.symm hj)] at e2
       obtain ⟨u', r', q⟩ := hl j y v' e1 e2 e3
       refine ⟨u', r', ?_⟩
       rcases q with q | ⟨k, c', e, z'⟩
       . exact .inl q
       . refine .inr ⟨k, c', e, z'.sameBut hs ?_⟩
         rintro rfl
         exact hj (nodup_ix hN e1 (I.ok.inj _ _ _ e hc ▸ hi))
   . by_cases hcc : c' = c
     . subst hcc; exact ⟨_, hc'⟩
     . obtain ⟨w2, z2⟩ := I.cell y c' e
       exact ⟨w2, z2.sameBut hs hcc⟩
   . obtain ⟨e, n, ne, nf, d⟩ := I.pin p hp
     refine ⟨(hs.2 p.1 ?_).trans e, n, ne, nf, d⟩
     intro q
     rw [q, hoc] at e
     have q' : oc = p.2 := Option.some.inj e
     exact d w' (by rw [<- q']; exact hocd)
theorem store_ok {M : Model} {A : Around} {E : Value -> Shared -> Prop} {i : Nat} {x : Str} {v : V} {u : Value} {Q : Unit -> Shared -> Prop} (I : Inv X pins σ H s) (hN : X.N.Nodup) (hi : X.N[i]? = some x) (hx : Loc X.env.scope x) (r : RelV v u)
 (h : ∀ s', Inv X pins (σ.set i (some v)) H s' -> Q () s') (hf : X.fn x = true \/ X.env.scope.names.lookup x = some .local := by first | exact .inl rfl | exact .inr rfl | assumption) : wpAny M A (storeName X.env x u) Q E s :=
 store_ok2 I hN hi hx r (fun s' I' _ => h s' I') hf
theorem Inv.call' {s' : Shared} {ch : List Addr} (I : Inv X pins σ H s) (ho : s'.os = s.os) (u : Un (frs X.stack) ch H H' s.heap s'.heap) (hok : HOk X.prog X.w H' s'.heap) (hg : AllBare s'.gens)
 (hch : ∀ b ∈ ch, (b ∈ X.ex \/ X.s₀.heap.objs.size <= b) /\ b ≠ X.env.locals /\ (∀ x c, X.env.cells.lookup x = some c -> c ≠ b) /\ ∀ p ∈ X.pn ++ pins, p.1 ≠ b) : Inv X pins σ H' s' := by
 obtain ⟨h', g', d', t', o'⟩ := s'
 have e : o' = s.os := ho
 subst e
 exact I.call (g' := g') (t' := t') (d' := d') u hok hg hch
end
abbrev XK := Value -> Option Addr -> Hp -> Prop
abbrev St := List (Option V)
abbrev VK := V -> Hp -> Prop
abbrev TE := St -> Hp -> VK -> Prop
abbrev TT := St -> Hp -> (Bool -> Hp -> Prop) -> Prop
abbrev TA := St -> Hp -> (List V -> Hp -> Prop) -> Prop
structure Ends where
 nx : St -> Hp -> Prop
 rt : VK
 bk : St -> Hp -> Prop := fun _ _ => False
 ct : St -> Hp -> Prop := fun _ _ => False
abbrev TS := Ends -> St -> Hp -> Prop
def EP (X : Cx) (pins : List (Addr × Obj)) (σ : St) (Q : VK) (u : Value) (s' : Shared) : Prop := ∃ v H', Inv X pins σ H' s' /\ RelV v u /\ Q v H'
def TP (X : Cx) (pins : List (Addr × Obj)) (σ : St) (Q : Bool -> Hp -> Prop) (b : Bool) (s' : Shared) : Prop := ∃ H', Inv X pins σ H' s' /\ Q b H'
def AP (X : Cx) (pins : List (Addr × Obj)) (σ : St) (Q : List V -> Hp -> Prop) (us : List Value) (s' : Shared) : Prop := ∃ vs H', Inv X pins σ H' s' /\ Vals vs us /\ Q vs H'
def SP (X : Cx) (pins : List (Addr × Obj)) (D : Ends) (f : Flow) (s' : Shared) : Prop :=
 match f with
 | .next => ∃ σ' H', Inv X pins σ' H' s' /\ D.nx σ' H'
 | .brk => ∃ σ' H', Inv X pins σ' H' s' /\ D.bk σ' H'
 | .cont => ∃ σ' H', Inv X pins σ' H' s' /\ D.ct σ' H'
 | .ret u => ∃ v σ' H', Inv X pins σ' H' s' /\ RelV v u /\ D.rt v H'
def PE (X : Cx) (e : Expr) (t : TE) : Prop :=
 ∀ (pins : List (Addr × Obj)) (s : Shared) (σ : St) (H : Hp) (Q : VK), Inv X pins σ H s -> t σ H Q -> wpAny (model X.prog X.w) X.A (eval e X.env) (EP X pins σ Q) X.xe s
def PT (X : Cx) (e : Expr) (t : TT) : Prop :=
 ∀ (pins : List (Addr × Obj)) (s : Shared) (σ : St) (H : Hp) (Q : Bool -> Hp -> Prop), Inv X pins σ H s -> t σ H Q -> wpAny (model X.prog X.w) X.A (isTrue e X.env (eval e X.env)) (TP X pins σ Q) X.xe s
def PW (X : Cx) (e : Expr) (t : TT) : Prop :=
 ∀ (whole : Sem Value) (pins : List (Addr × Obj)) (s : Shared) (σ : St) (H : Hp) (Q : Bool -> Hp -> Prop), Inv X pins σ H s -> t σ H Q -> wpAny (model X.prog X.w) X.A (isTrue e X.env whole) (TP X pins σ Q) X.xe s
theorem PW.pt {X : Cx} {e : Expr} {t : TT} (h : PW X e t) : PT X e t := h _
def PA (X : Cx) (es : List Expr) (t : TA) : Prop :=
 ∀ (pos : Pos) (pins : List (Addr × Obj)) (s : Shared) (σ : St) (H : Hp) (Q : List V -> Hp -> Prop), Inv X pins σ H s -> t σ H Q -> wpAny (model X.prog X.w) X.A (spliced (backTo pos (starEach es X.env))) (AP X pins σ Q) X.xe s
def PS (X : Cx) (st : Stmt) (t : TS) : Prop :=
 ∀ (pins : List (Addr × Obj)) (s : Shared) (σ : St) (H : Hp) (D : Ends), Inv X pins σ H s -> t D σ H -> wpAny (model X.prog X.w) X.A (exec st X.env) (SP X pins D) X.xe s
def PSs (X : Cx) (st : List Stmt) (t : TS) : Prop :=
 ∀ (pins : List (Addr × Obj)) (s : Shared) (σ : St) (H : Hp) (D : Ends), Inv X pins σ H s -> t D σ H -> wpAny (model X.prog X.w) X.A (execs st X.env) (SP X pins D) X.xe s
theorem thn {α : Type} {t : Sem α} {Q Q' : α -> Shared -> Prop} {M : Model} {A : Around} {E : Value -> Shared -> Prop} {s : Shared} (h : wpAny M A t Q E s) (hQ : ∀ a s, Q a s -> Q' a s) : wpAny M A t Q' E s := wpAny_mono h hQ fun _ _ x => x
section
variable {X : Cx}
def tVar (i : Nat) : TE := fun σ H Q => ∃ v, σ[i]? = some (some v) /\ Q v H
def tC (v : V) : TE := fun _ H Q => Q v H
theorem pe_var {i : Nat} {x : Str} {pos : Pos} (hN : X.N[i]? = some x) (hv : Vis X.env.scope x) (hd : (x == ("__debug__" : Str)) = false := by decide) (hcd : (x == ("__classdict__" : Str)) = false := by decide) : PE X (.Name x pos) (tVar i) := by
 intro pins s σ H Q I h
 obtain ⟨v, e, h⟩ := h
 obtain ⟨m, hn, hl⟩ := I.loc
 obtain ⟨u, r, l⟩ := hl i x v hN e hv
 have fin : EP X pins σ Q u s := ⟨v, H, I, r, h⟩
 rcases l with ⟨hk, hm⟩ | ⟨hk, c, hc, hcell⟩
 . exact wpAny_Name (wpAny_loadName_local I.ok.kind hk hn hm fin) hd
 . rcases hk with hk | hk
   . exact wpAny_Name (wpAny_loadName_cell I.ok.kind hk hc hcell fin) hd
   . exact wpAny_Name (wpAny_loadName_free I.ok.kind hk hc hcell fin hcd) hd
theorem pe_int {i j pos} : PE X (.Constant (.int i) j pos) (tC (.int i)) := fun _ _ _ H _ I h => wpAny_Constant_int ⟨.int i, H, I.tok _, ⟨_, rfl⟩, h⟩
theorem pe_bl {b j pos} : PE X (.Constant (.bool b) j pos) (tC (.bl b)) := fun _ _ _ H _ I h => Constant_bool ⟨.bl b, H, I, rfl, h⟩
theorem pe_non {j pos} : PE X (.Constant .none j pos) (tC .non) := fun _ _ _ H _ I h => Constant_none ⟨.non, H, I, rfl, h⟩
theorem pe_str {x j pos} : PE X (.Constant (.str x) j pos) (tC (.str x)) := fun _ _ _ H _ I h => Calls.Constant_str ⟨.str x, H, I.tok _, ⟨_, rfl⟩, h⟩
def Gl (X : Cx) (x : Str) : Prop := X.env.kindOf x = some .globalImplicit
theorem ld_glob {E : Value -> Shared -> Prop} {pins : List (Addr × Obj)} {s : Shared} {σ : St} {H : Hp} {x : Str} {u : Value} {pos : Pos} {Q : Value -> Shared -> Prop} (I : Inv X pins σ H s) (hg : Gl X x) (hm : X.mg x = some u) (h : Q u s)
 (hd : (x == ("__debug__" : Str)) = false := by decide) : wpAny (model X.prog X.w) X.A (eval (.Name x pos) X.env) Q E s :=
 Calls.Name_function_global I.ok.kind hg (Calls.loadGlobal_global (by rw [I.ok.glob]; exact I.mod.glob.keeps I.bk) hm h) hd
theorem ld_blt {E : Value -> Shared -> Prop} {pins : List (Addr × Obj)} {s : Shared} {σ : St} {H : Hp} {x : Str} {u : Value} {pos : Pos} {Q : Value -> Shared -> Prop} (I : Inv X pins σ H s) (hg : Gl X x) (hm : X.mg x = none) (hv : bootBuiltins x = some u) (h : Q u s)
 (hn : x ≠ "__name__" := by decide) (hd : (x == ("__debug__" : Str)) = false := by decide) : wpAny (model X.prog X.w) X.A (eval (.Name x pos) X.env) Q E s := by
 obtain ⟨mb, h1, h2⟩ := I.mod.blt
 exact Calls.Name_function_global I.ok.kind hg (Calls.loadGlobal_builtin (by rw [I.ok.glob]; exact I.mod.glob.keeps I.bk) hm (by rw [I.ok.blt]; exact h1.keeps I.bk) ((h2 x hn).trans hv) h) hd
theorem pe_glob {x : Str} {v : V} {u : Value} {pos : Pos} (hg : Gl X x) (hm : X.mg x = some u) (r : RelV v u) (hd : (x == ("__debug__" : Str)) = false := by decide) : PE X (.Name x pos) (tC v) :=
 fun _ _ _ H _ I h => ld_glob I hg hm ⟨v, H, I, r, h⟩ hd
theorem pe_bltn {x : Str} {v : V} {u : Value} {pos : Pos} (hg : Gl X x) (hm : X.mg x = none) (hv : bootBuiltins x = some u) (r : RelV v u) (hn : x ≠ "__name__" := by decide) (hd : (x == ("__debug__" : Str)) = false := by decide) : PE X (.Name x pos) (tC v) :=
 fun _ _ _ H _ I h => ld_blt I hg hm hv ⟨v, H, I, r, h⟩ hn hd
variable {a b : Expr} {ta tb : TE} {pos : Pos}
def PC (X : Cx) (op : CmpOp) (a b : Expr) (t : TE) : Prop :=
 ∀ (pins : List (Addr × Obj)) (s : Shared) (σ : St) (H : Hp) (Q : VK), Inv X pins σ H s -> t σ H Q ->
   wpAny (model X.prog X.w) X.A (eval a X.env) (fun v s₁ => wpAny (model X.prog X.w) X.A (eval b X.env) (fun u s₂ => wpAny (model X.prog X.w) X.A (compareOp op v u) (EP X pins σ Q) X.xe s₂) X.xe s₁) X.xe s
def tB (t : TE) : TT := fun σ H Q => t σ H fun x H1 => ∃ c, x = .bl c /\ Q c H1
theorem pt_cmp {op : CmpOp} {t : TE} (h : PC X op a b t) (h1 : behindInMarks op b = false := by first | exact nobehind _ (by decide) (by decide) | rfl) : PT X (.Compare a [op] [b] pos) (tB t) := by
 intro pins s σ H Q I hw
 refine wpAny_isTrue_Compare1 (thn (h pins s σ H _ I hw) fun v s1 h1 => thn h1 fun u s2 h2 => thn h2 fun c s3 ⟨x, H1, I1, r1, q1⟩ => ?_) h1
 obtain ⟨d, rfl, q⟩ := q1
 cases r1
 exact wpAny_truthy_bool ⟨H1, I1, q⟩
variable {tA tB' : TT} {rest : List Expr}
def tAnd (t u : TT) : TT := fun σ H Q => t σ H fun c H1 => if c = true then u σ H1 Q else Q false H1
def tOr (t u : TT) : TT := fun σ H Q => t σ H fun c H1 => if c = true then Q true H1 else u σ H1 Q
def tNot (t : TT) : TT := fun σ H Q => t σ H fun c H1 => Q (!c) H1
theorem pw_and1 (ha : PT X a tA) : PW X (.BoolOp .And [a] pos) tA := by
 intro wh pins s σ H Q I h
 refine isTrue_and (thn (ha pins s σ H Q I h) fun c s1 e => ?_)
 cases c with
 | true => exact isTrue_and_nil e
 | false => exact e
theorem pw_or1 (ha : PT X a tA) : PW X (.BoolOp .Or [a] pos) tA := by
 intro wh pins s σ H Q I h
 refine isTrue_or (thn (ha pins s σ H Q I h) fun c s1 e => ?_)
 cases c with
 | false => exact isTrue_or_nil e
 | true => exact e
theorem pw_and (ha : PT X a tA) (hb : PW X (.BoolOp .And (b :: rest) pos) tB') : PW X (.BoolOp .And (a :: b :: rest) pos) (tAnd tA tB') := by
 intro wh pins s σ H Q I h
 refine isTrue_and (thn (ha pins s σ H _ I h) fun c s1 ⟨H1, I1, q1⟩ => ?_)
 cases c with
 | true => exact hb wh pins s1 σ H1 Q I1 q1
 | false => exact ⟨H1, I1, q1⟩
theorem pw_or (ha : PT X a tA) (hb : PW X (.BoolOp .Or (b :: rest) pos) tB') : PW X (.BoolOp .Or (a :: b :: rest) pos) (tOr tA tB') := by
 intro wh pins s σ H Q I h
 refine isTrue_or (thn (ha pins s σ H _ I h) fun c s1 ⟨H1, I1, q1⟩ => ?_)
 cases c with
 | true => exact ⟨H1, I1, q1⟩
 | false => exact hb wh pins s1 σ H1 Q I1 q1
theorem pt_not (ha : PT X a tA) : PT X (.UnaryOp .Not a pos) (tNot tA) := by
 intro pins s σ H Q I h
 exact isTrue_not (ha pins s σ H (fun c H1 => Q (!c) H1) I h)
def tAndV (ta tb : TE) : TE := fun σ H Q => ta σ H fun x H1 => ∃ c, x = .bl c /\ if c = true then tb σ H1 Q else Q (.bl false) H1
def tNotV (ta : TE) : TE := fun σ H Q => ta σ H fun x H1 => ∃ c, x = .bl c /\ Q (.bl (!c)) H1
theorem pe_one {op} {t : TE} (h : PE X a t) : PE X (.BoolOp op [a] pos) t := fun pins s σ H Q I hw => BoolOp_one (h pins s σ H Q I hw)
theorem pe_and (ha : PE X a ta) (hb : PE X (.BoolOp .And (b :: rest) pos) tb) : PE X (.BoolOp .And (a :: b :: rest) pos) (tAndV ta tb) := by
 intro pins s σ H Q I h
 refine BoolOp_and (thn (ha pins s σ H _ I h) fun v s1 ⟨x, H1, I1, r1, q1⟩ => ?_)
 obtain ⟨c, rfl, q1⟩ := q1
 cases r1
 refine wpAny_truthy_bool ?_
 cases c with
 | true => exact hb pins s1 σ H1 Q I1 q1
 | false => exact ⟨.bl false, H1, I1, rfl, q1⟩
theorem pe_not (ha : PE X a ta) : PE X (.UnaryOp .Not a pos) (tNotV ta) := by
 intro pins s σ H Q I h
 refine UnaryOp_ (thn (ha pins s σ H _ I h) fun v s1 ⟨x, H1, I1, r1, q1⟩ => ?_)
 obtain ⟨c, rfl, q1⟩ := q1
 cases r1
 exact not_of (wpAny_truthy_bool ⟨.bl (!c), H1, I1, rfl, q1⟩)
end
def SqL (K : PySem.W.Frag) (H : Hp) (a : Addr) (xs : List V) : Prop :=
 Rd H a (.lst xs) \/
  ∃ (o : Obj) (its : Array Value) (n : Nat), K.lookup a = some o /\ o.cls = .type "list" /\ o.dict = none /\ o.data = .seq its n /\ its.size <= sizeLine /\ Vals xs its.toList
def SqT (K : PySem.W.Frag) (H : Hp) (a : Addr) (xs : List V) : Prop :=
 Rd H a (.tup xs) \/
  ∃ (o : Obj) (its : Array Value) (n : Nat), K.lookup a = some o /\ o.cls = .type "tuple" /\ o.data = .seq its n /\ its.size <= sizeLine /\ Vals xs its.toList
def absV : Value -> Option V
 | .none => some .non
 | .bool b => some (.bl b)
 | .int i _ => some (.int i)
 | .str x _ => some (.str x)
 | .bytes b _ => some (.byt b)
 | .float b _ => some (.flt b)
 | .ref a => some (.ref a)
 | .type n => some (.ty n)
 | _ => none
theorem RelV.abs {x : V} {u : Value} (r : RelV x u) : absV u = some x := by
 cases x with
 | non => cases r; rfl
 | bl _ => cases r; rfl
 | int _ => obtain ⟨t, rfl⟩ := r; rfl
 | str _ => obtain ⟨t, rfl⟩ := r; rfl
 | byt _ => obtain ⟨t, rfl⟩ := r; rfl
 | flt _ => obtain ⟨t, rfl⟩ := r; rfl
 | ref _ => cases r; rfl
 | ty _ => cases r; rfl
theorem RelV.inj {x y : V} {u : Value} (r : RelV x u) (q : RelV y u) : x = y := Option.some.inj (r.abs.symm.trans q.abs)
theorem Vals.inj : ∀ {xs ys : List V} {us : List Value}, Vals xs us -> Vals ys us -> xs = ys
 | _, _, _, .nil, .nil => rfl
 | _, _, _, .cons r t, .cons r' t' => by rw [r.inj r', Vals.inj t t']
section
variable {X : Cx} {pins : List (Addr × Obj)} {σ : St} {H : Hp} {s : Shared} {a : Addr} {xs ys : List V}
theorem SqL.of {K : PySem.W.Frag} (h : H a = some (.lst xs)) : SqL K H a xs := .inl (.inl h)
theorem SqT.of {K : PySem.W.Frag} (h : H a = some (.tup xs)) : SqT K H a xs := .inl (.inl h)
theorem Inv.list (I : Inv X pins σ H s) (h : SqL X.K H a xs) : ∃ its : List Value, Vals xs its /\ PlainL s.heap a its.toArray /\ xs.length <= sizeLine := by
 rcases h with h | ⟨o, its, n, hk, hc, hd, hs, hz, r⟩
 . obtain ⟨z, its, n, r, e⟩ := h.ok I.hok
   exact ⟨its, r, ⟨_, n, e, rfl, rfl, rfl⟩, z⟩
 . refine ⟨its.toList, r, ⟨o, n, I.kIn a o hk, hc, hd, by simpa using hs⟩, ?_⟩
   have e := r.length
   simp only [Array.length_toList] at e
   omega
theorem Inv.tuple (I : Inv X pins σ H s) (h : SqT X.K H a xs) : ∃ its : List Value, Vals xs its /\ IsTup s.heap a its.toArray /\ xs.length <= sizeLine := by
 rcases h with h | ⟨o, its, n, hk, hc, hs, hz, r⟩
 . obtain ⟨z, its, r, p⟩ := h.ok I.hok
   exact ⟨its, r, p, z⟩
 . refine ⟨its.toList, r, ⟨o, I.kIn a o hk, hc, n, by simpa using hs⟩, ?_⟩
   have e := r.length
   simp only [Array.length_toList] at e
   omega
theorem Inv.list_inj (I : Inv X pins σ H s) (h : SqL X.K H a xs) (h' : SqL X.K H a ys) : xs = ys := by
 obtain ⟨its, r, ⟨o, n, e, _, _, d⟩, _⟩ := I.list h
 obtain ⟨its', r', ⟨o', n', e', _, _, d'⟩, _⟩ := I.list h'
 rw [e] at e'; cases e'
 rw [d] at d'
 injection d' with d1 _
 have : its = its' := by simpa using congrArg Array.toList d1
 subst this
 exact r.inj r'
end
abbrev Cx.wish (X : Cx) (E : Value -> Shared -> Prop) : Cx := { X with xe := E }
abbrev Cx.nox (X : Cx) : Cx := X.wish fun _ _ => False
theorem Cx.Ok.wish {X : Cx} (ok : X.Ok) (E : Value -> Shared -> Prop) : (X.wish E).Ok :=
 ⟨ok.mod, ok.kind, ok.glob, ok.blt, ok.above, ok.inj, ok.has, ok.cab, ok.hd, ok.frames, ok.stk, ok.exf, ok.bs, ok.bsz, ok.noex, ok.exfs, ok.funs, ok.frf⟩
theorem Cx.Ok.unwish {X : Cx} {E : Value -> Shared -> Prop} (ok : (X.wish E).Ok) : X.Ok :=
 ⟨ok.mod, ok.kind, ok.glob, ok.blt, ok.above, ok.inj, ok.has, ok.cab, ok.hd, ok.frames, ok.stk, ok.exf, ok.bs, ok.bsz, ok.noex, ok.exfs, ok.funs, ok.frf⟩
section
variable {X : Cx} {pins : List (Addr × Obj)} {σ : St} {H : Hp} {s : Shared} {E : Value -> Shared -> Prop}
theorem Inv.wish (I : Inv X pins σ H s) (E : Value -> Shared -> Prop) : Inv (X.wish E) pins σ H s := ⟨I.ok.wish E, I.os, I.bare, I.base, I.loc, I.cell, I.free, I.freeC, I.pin, I.hok, I.len⟩
theorem Inv.unwish (I : Inv (X.wish E) pins σ H s) : Inv X pins σ H s := ⟨I.ok.unwish, I.os, I.bare, I.base, I.loc, I.cell, I.free, I.freeC, I.pin, I.hok, I.len⟩
theorem SP.unwish {D : Ends} {f : Flow} {s' : Shared} (h : SP (X.wish E) pins D f s') : SP X pins D f s' := by
 cases f with
 | next => obtain ⟨σ', H', I, q⟩ := h; exact ⟨σ', H', I.unwish, q⟩
 | brk => obtain ⟨σ', H', I, q⟩ := h; exact ⟨σ', H', I.unwish, q⟩
 | cont => obtain ⟨σ', H', I, q⟩ := h; exact ⟨σ', H', I.unwish, q⟩
 | ret u => obtain ⟨v, σ', H', I, r, q⟩ := h; exact ⟨v, σ', H', I.unwish, r, q⟩
theorem PSs.nox {st : List Stmt} {t : TS} (h : PSs X.nox st t) : PSs X st t := fun pins s σ H D I hw =>
 wpAny_mono (h pins s σ H D (I.wish _) hw) (fun _ _ q => q.unwish) fun _ _ z => False.elim z
end
section
variable {X : Cx} {st : Stmt} {rest : List Stmt} {t u : TS} {e : Expr} {te : TE} {pos : Pos}
def tNext : TS := fun D σ H => D.nx σ H
theorem pss_nil : PSs X [] tNext := fun _ _ σ H _ I h => wpAny_execs_nil ⟨σ, H, I, h⟩
theorem pss_one (h1 : PS X st t) : PSs X [st] t := by
 intro pins s σ H D I h
 refine wpAny_execs_cons (thn (h1 pins s σ H D I h) fun f s1 q => ?_)
 cases f with
 | next => exact wpAny_execs_nil q
 | ret v => exact q
 | brk => exact q
 | cont => exact q
theorem Inv.quiet {pins : List (Addr × Obj)} {σ : St} {H : Hp} {s : Shared} (I : Inv X pins σ H s) : interactive X.env = false := by simp [interactive, I.ok.kind]
def tDrop (te : TE) : TS := fun D σ H => te σ H fun _ H1 => D.nx σ H1
theorem ps_expr (he : PE X e te) (hs : swapsWith e none pos.line X.env = pure false := by rfl) : PS X (.Expr e pos) (tDrop te) := by
 intro pins s σ H D I h
 exact wpAny_Expr_any (thn (he pins s σ H _ I h) fun v s1 ⟨x, H1, I1, r1, q1⟩ => ⟨σ, H1, I1, q1⟩) I.quiet hs
def tRet (te : TE) : TS := fun D σ H => te σ H D.rt
theorem ps_ret (he : PE X e te) : PS X (.Return (some e) pos) (tRet te) := by
 intro pins s σ H D I h
 exact wpAny_Return_some (thn (he pins s σ H _ I h) fun v s1 ⟨x, H1, I1, r1, q1⟩ => ⟨x, σ, H1, I1, r1, q1⟩)
def tIfS (c : TT) (t u : TS) : TS := fun D σ H => c σ H fun b H1 => if b = true then t D σ H1 else u D σ H1
theorem ps_if {c : Expr} {a b : List Stmt} {tc : TT} (hc : PT X c tc) (ha : PSs X a t) (hb : PSs X b u) : PS X (.If c a b pos) (tIfS tc t u) := by
 intro pins s σ H D I h
 refine wpAny_If (thn (hc pins s σ H _ I h) fun d s1 ⟨H1, I1, q1⟩ => ?_)
 cases d with
 | true => exact ha pins s1 σ H1 D I1 q1
 | false => exact hb pins s1 σ H1 D I1 q1
end
abbrev TG := V -> St -> Hp -> (St -> Hp -> Prop) -> Prop
abbrev TGs := List V -> St -> Hp -> (St -> Hp -> Prop) -> Prop
def PG (X : Cx) (target : Expr) (t : TG) : Prop :=
 ∀ (pins : List (Addr × Obj)) (s : Shared) (σ : St) (H : Hp) (v : V) (u : Value) (Q : St -> Hp -> Prop), Inv X pins σ H s -> RelV v u -> t v σ H Q ->
   wpAny (model X.prog X.w) X.A (assign target X.env u) (fun _ s' => ∃ σ' H', Inv X pins σ' H' s' /\ Q σ' H') X.xe s
def PGs (X : Cx) (ts : List Expr) (t : TGs) : Prop :=
 ∀ (pins : List (Addr × Obj)) (s : Shared) (σ : St) (H : Hp) (vs : List V) (us : List Value) (Q : St -> Hp -> Prop), Inv X pins σ H s -> Vals vs us -> t vs σ H Q ->
   wpAny (model X.prog X.w) X.A (assignInOrder ((assignEach ts X.env).map (·.2)) us) (fun _ s' => ∃ σ' H', Inv X pins σ' H' s' /\ Q σ' H') X.xe s
section
variable {X : Cx} {pos : Pos}
def gName (i : Nat) : TG := fun v σ H Q => Q (σ.set i (some v)) H
theorem pg_name {i : Nat} {x : Str} (hN : X.N.Nodup) (hi : X.N[i]? = some x) (hx : Loc X.env.scope x) (hf : X.fn x = true \/ X.env.scope.names.lookup x = some .local := by first | exact .inl rfl | exact .inr rfl | assumption) : PG X (.Name x pos) (gName i) := by
 intro pins s σ H v u Q I r h
 exact wpAny_assign_Name (store_ok I hN hi hx r (fun s' I' => ⟨_, H, I', h⟩) hf)
def gNil : TGs := fun vs σ H Q => vs = [] /\ Q σ H
def gCons (t : TG) (u : TGs) : TGs := fun vs σ H Q => ∃ v r, vs = v :: r /\ t v σ H fun σ' H' => u r σ' H' Q
theorem pgs_nil : PGs X [] gNil := by
 intro pins s σ H vs us Q I r h
 obtain ⟨e, h⟩ := h
 subst e
 cases r
 exact assignInOrder_nil ⟨σ, H, I, h⟩
theorem pgs_cons {e : Expr} {es : List Expr} {t : TG} {u : TGs} (h1 : PG X e t) (h2 : PGs X es u)
 (hs : (assignEach (e :: es) X.env).map (·.2) = assign e X.env :: (assignEach es X.env).map (·.2) := by rfl) : PGs X (e :: es) (gCons t u) := by
 intro pins s σ H vs us Q I r h
 obtain ⟨v, vr, e1, h⟩ := h
 subst e1
 cases r with
 | cons r rr =>
   rw [hs]
   refine assignInOrder_cons (thn (h1 pins s σ H _ _ _ I r h) fun _ s1 ⟨σ1, H1, I1, q1⟩ => ?_)
   exact h2 pins s1 σ1 H1 _ _ Q I1 rr q1
def gTup (K : PySem.W.Frag) (n : Nat) (t : TGs) : TG := fun v σ H Q => ∃ a xs, v = .ref a /\ SqT K H a xs /\ xs.length = n /\ t xs σ H Q
theorem pg_tup {es : List Expr} {k : Nat} {t : TGs} {n : Nat} (hc : X.calm = true) (h : PGs X es t)
 (hn : (assignEach es X.env).length = n := by rfl) (hst : (assignEach es X.env).findIdx? (·.1) = none := by rfl) : PG X (.Tuple es k pos) (gTup X.K n t) := by
 intro pins s σ H v u Q I r hw
 obtain ⟨a, xs, e1, hq, hl, hw⟩ := hw
 subst e1
 cases r
 obtain ⟨its, rv, ht, hz⟩ := I.tuple hq
 refine assign_Tuple_tuple (I.ok.hd hc) ht (by simp [hn, <- hl, rv.length]) hst fun h' hx => ?_
 have I1 : Inv X pins σ H { s with heap := h' } := I.kept (t' := s.toks) fun b o e => hx b o (Nat.ne_of_lt (Heap.lt_size e)) e
 exact h pins _ σ H xs _ Q I1 (by simpa using rv) hw
def tAsg (te : TE) (g : TG) : TS := fun D σ H => te σ H fun x H1 => g x σ H1 D.nx
theorem ps_set {i : Nat} {x : Str} {e : Expr} {te : TE} {pos' : Pos} (hN : X.N.Nodup) (hi : X.N[i]? = some x) (hx : Loc X.env.scope x) (he : PE X e te) (hs : swapsWith e (some (.Name x pos')) pos.line X.env = pure false := by rfl) (hf : X.fn x = true \/ X.env.scope.names.lookup x = some .local := by first | exact .inl rfl | exact .inr rfl | assumption) :
 PS X (.Assign [.Name x pos'] e pos) (tAsg te (gName i)) := by
 intro pins s σ H D I h
 refine wpAny_Assign_Name (thn (he pins s σ H _ I h) fun v s1 ⟨y, H1, I1, r1, q1⟩ => ?_) hs
 exact store_ok I1 hN hi hx r1 (fun s2 I2 => ⟨_, H1, I2, q1⟩) hf
end
section
variable {X : Cx} {pos : Pos}
def tWhile (c : TT) (tb : TS) : TS := fun D σ H => ∃ W : Nat -> St -> Hp -> Prop, (∃ m, W m σ H) /\ ∀ m σ H, W m σ H ->
 c σ H fun b H1 => if b = true then ∃ N : St -> Hp -> Prop, (∀ σ' H', N σ' H' -> ∃ m', m' < m /\ W m' σ' H') /\ tb { D with nx := N, ct := N, bk := D.nx } σ H1 else D.nx σ H1
theorem ps_while {c : Expr} {body : List Stmt} {tc : TT} {tb : TS} (hp : PassesOwn (model X.prog X.w) X.A X.env X.xe) (hc : PT X c tc) (hb : PSs X body tb) : PS X (.While c body [] pos) (tWhile tc tb) := by
 intro pins s σ H D I h
 obtain ⟨W, ⟨m0, w0⟩, turn⟩ := h
 refine wpAny_While (codeAny_whileLoop (fun n s' => ∃ σ' H', Inv X pins σ' H' s' /\ W n σ' H') ?_ m0 ⟨σ, H, I, w0⟩)
 rintro n s1 ⟨σ1, H1, I1, w1⟩
 refine wpAny_passesOwn hp (thn (hc pins s1 σ1 H1 _ I1 (turn n σ1 H1 w1)) fun b s2 ⟨H2, I2, q2⟩ => ?_)
 cases b with
 | true =>
   obtain ⟨N, hN, q2⟩ := q2
   rw [if_pos rfl]
   refine wpAny_passesOwn hp (thn (hb pins s2 σ1 H2 _ I2 q2) fun f s3 q3 => ?_)
   cases f with
   | next =>
     obtain ⟨σ3, H3, I3, n3⟩ := q3
     obtain ⟨m', hm, w3⟩ := hN σ3 H3 n3
     exact ⟨m', hm, σ3, H3, I3, w3⟩
   | cont =>
     obtain ⟨σ3, H3, I3, n3⟩ := q3
     obtain ⟨m', hm, w3⟩ := hN σ3 H3 n3
     exact ⟨m', hm, σ3, H3, I3, w3⟩
   | brk => exact q3
   | ret v => exact q3
 | false =>
   rw [if_neg Bool.false_ne_true]
   exact wpAny_execs_nil ⟨σ1, H2, I2, q2⟩
end
structure It where
 go : Nat -> Hp -> Prop
 yld : Nat -> Hp -> V -> Hp -> Prop
 stop : Nat -> Hp -> Prop
def FpOk (X : Cx) (pins : List (Addr × Obj)) (H : Hp) (b : Addr) : Prop :=
 H b = none /\ b ≠ X.env.locals /\ b ∉ X.fs /\ (b ∈ X.ex \/ X.s₀.heap.objs.size <= b) /\ (∀ x c, X.env.cells.lookup x = some c -> c ≠ b) /\ ∀ p ∈ X.pn ++ pins, p.1 ≠ b
theorem Inv.fpOk {X : Cx} {pins : List (Addr × Obj)} {σ : St} {H H' : Hp} {s : Shared} {b : Addr} (I : Inv X pins σ H s) (hb : s.heap.objs.size <= b) (hn : H' b = none) : FpOk X pins H' b := by
 refine ⟨hn, Nat.ne_of_gt (Nat.lt_of_lt_of_le I.lt hb), I.nofs hb, .inr (Nat.le_trans I.sz hb), fun x c e z => ?_, fun p hp z => ?_⟩
 . obtain ⟨v, q⟩ := I.cell x c e
   exact absurd (Nat.lt_of_lt_of_le q.lt (by rw [z]; exact hb)) (Nat.lt_irrefl _)
 . exact absurd (Nat.lt_of_lt_of_le (Heap.lt_size (I.pin p hp).1) (by rw [z]; exact hb)) (Nat.lt_irrefl _)
structure Turn (P : Program) (w : World) (K : PySem.W.Frag) (tg : Expr) (J : It) (fp : List Addr) (it : Addr) (tn : Nat -> Heap -> Prop) : Prop where
 mem : it ∈ fp
 obj : ∀ i h, tn i h -> ∀ b ∈ fp, ∃ o, h.get? b = some o /\ ∀ v, o.data ≠ .cell v
 keep : ∀ i h h', tn i h -> (∀ b ∈ fp, ∀ o, h.get? b = some o -> h'.get? b = some o) -> tn i h'
 item : ∀ (X : Cx), X.prog = P -> X.w = w -> X.K = K -> X.calm = true -> ∀ (i : Nat) (pins : List (Addr × Obj)) (s : Shared) (σ : St) (H : Hp) (E : Value -> Shared -> Prop), Inv X pins σ H s -> (∀ b ∈ fp, FpOk X pins H b) -> tn i s.heap -> J.go i H ->
  wpAny (model P w) X.A (pyNext (.ref it)) (fun r s1 => ∃ u, r = some u /\
   wpAny (model P w) X.A (letOwnedTupleGo tg (.ref it) u) (fun _ s2 => ∃ x H', Inv X pins σ H' s2 /\ RelV x u /\ J.yld i H x H' /\ tn (i + 1) s2.heap /\ ∀ b ∈ fp, H' b = none) E s1) E s
 done : ∀ (X : Cx), X.prog = P -> X.w = w -> X.K = K -> X.calm = true -> ∀ (i : Nat) (pins : List (Addr × Obj)) (s : Shared) (σ : St) (H : Hp) (E : Value -> Shared -> Prop), Inv X pins σ H s -> (∀ b ∈ fp, FpOk X pins H b) -> tn i s.heap -> J.stop i H ->
  wpAny (model P w) X.A (pyNext (.ref it)) (fun r s1 => r = none /\ Inv X pins σ H s1) E s
 self : ∀ (A : Around) (i : Nat) (s : Shared) (Q : Value -> Shared -> Prop) (E : Value -> Shared -> Prop), tn i s.heap -> Q (.ref it) s -> wpAny (model P w) A (pyIter (.ref it)) Q E s
abbrev TI := St -> Hp -> (It -> Hp -> Prop) -> Prop
def PIE (X : Cx) (pins : List (Addr × Obj)) (σ : St) (tg : Expr) (R : It -> Hp -> Prop) (itv : Value) (s2 : Shared) : Prop :=
 ∃ (it : Addr) (fp : List Addr) (tn : Nat -> Heap -> Prop) (J : It) (H' : Hp), itv = .ref it /\ Inv X pins σ H' s2 /\ Turn X.prog X.w X.K tg J fp it tn /\ tn 0 s2.heap /\ (∀ b ∈ fp, FpOk X pins H' b) /\ R J H'
def PI (X : Cx) (tg iter : Expr) (wi : TI) : Prop :=
 ∀ (pins : List (Addr × Obj)) (s : Shared) (σ : St) (H : Hp) (R : It -> Hp -> Prop), Inv X pins σ H s -> wi σ H R ->
   wpAny (model X.prog X.w) X.A (eval iter X.env) (fun v s1 => wpAny (model X.prog X.w) X.A (pyIter v) (PIE X pins σ tg R) X.xe s1) X.xe s
theorem go_of {M : Model} {A : Around} {E : Value -> Shared -> Prop} {s : Shared} {tg : Expr} {it : Addr} {u : Value} {o : Obj} {n : String} {vs : Array Value} {Q : Unit -> Shared -> Prop} (ho : s.heap.get? it = some o) (hc : o.cls = .type n) (hd : o.data = .fields vs)
 (hn : ["enumerate", "zip", "dict_itemiterator", "dict_reverseitemiterator", "odict_iterator", "itertools.zip_longest", "itertools.pairwise"].contains n = false) (hQ : Q () s) : wpAny M A (letOwnedTupleGo tg (.ref it) u) Q E s := by
 unfold letOwnedTupleGo
 cases tg <;> first
  | exact wpAny_pure hQ
  | (cases u <;> first
   | exact wpAny_pure hQ
   | (refine wpAny_bind (wpAny_load ho ?_)
      rw [hc, hd]
      show wpAny M A (if (["enumerate", "zip", "dict_itemiterator", "dict_reverseitemiterator", "odict_iterator", "itertools.zip_longest", "itertools.pairwise"].contains n && vs[0]? == some (rawInt _)) = true then _ else _) Q E s
      rw [if_neg (by intro h; rw [hn, Bool.false_and] at h; cases h)]
      exact wpAny_pure hQ))
def Itl (K : PySem.W.Frag) (a : Addr) : It :=
 ⟨fun i H => ∃ xs x, SqL K H a xs /\ xs[i]? = some x, fun i H x H' => H' = H /\ ∀ xs, SqL K H a xs -> xs[i]? = some x, fun i H => ∃ xs, SqL K H a xs /\ xs.length <= i⟩
def Itr (lo : Int) (n : Nat) : It := ⟨fun i _ => i < n, fun i H x H' => H' = H /\ x = .int (lo + i), fun i _ => n <= i⟩
theorem turn_list {P : Program} {w : World} {K : PySem.W.Frag} {tg : Expr} (a it : Addr) : Turn P w K tg (Itl K a) [it] it (fun i h => h.IsListIter it a i) where
 mem := by simp
 obj := fun i h st b hb => by
  have e : b = it := by simpa using hb
  subst e
  obtain ⟨o, e, c, d⟩ := st
  exact ⟨o, e, fun v z => by rw [d] at z; cases z⟩
 keep := fun i h h' st k => st.at fun o e => k it (by simp) o e
 item := by
  intro X hP hw hK hc i pins s σ H E I hf st hg
  subst hP hw hK
  obtain ⟨xs, x, hq, hx⟩ := hg
  obtain ⟨its, rv, p, hz⟩ := I.list hq
  obtain ⟨u, hu, ru⟩ := rv.get hx
  obtain ⟨f0, f1, f2, f3, f4, f5⟩ := hf it (by simp)
  refine wpAny_pyNext_list_item st p.isList (x := u) (by simpa using hu) fun h' st' sb => ?_
  have I1 : Inv X pins σ H { s with heap := h' } := I.turned (t' := s.toks) (fun b o hb e => (sb.2 b hb).trans e) f0 f1 f3 f4 f5
  obtain ⟨o, e, c, d⟩ := id st'
  exact ⟨u, rfl, go_of (s := { s with heap := h' }) e c d (by decide) ⟨x, H, I1, ru, ⟨rfl, fun ys hy => by rw [I.list_inj hy hq]; exact hx⟩, st', fun b hb => (hf b hb).1⟩⟩
 done := by
  intro X hP hw hK hc i pins s σ H E I hf st hg
  subst hP hw hK
  obtain ⟨xs, hq, hx⟩ := hg
  obtain ⟨its, rv, p, hz⟩ := I.list hq
  obtain ⟨f0, f1, f2, f3, f4, f5⟩ := hf it (by simp)
  have hl := rv.length
  exact wpAny_pyNext_list_end (I.ok.hd hc) st p.isList (by simp; omega) fun h' eb => ⟨rfl, I.turned (t' := s.toks) (fun b o hb e => eb b o hb e) f0 f1 f3 f4 f5⟩
 self := fun _ _ _ _ _ st h => wpAny_pyIter_listiter st h
theorem turn_range {P : Program} {w : World} {K : PySem.W.Frag} {tg : Expr} (it : Addr) (lo : Int) (n : Nat) : Turn P w K tg (Itr lo n) [it] it (fun i h => IsRangeIter h it (lo + (i : Nat) * 1) ((n : Int) - (i : Nat)) 1) where
 mem := by simp
 obj := fun i h st b hb => by
  have e : b = it := by simpa using hb
  subst e
  exact ⟨_, st, fun v z => by
   have z' : Data.fields _ = Data.cell v := z
   cases z'⟩
 keep := fun i h h' st k => k it (by simp) _ st
 item := by
  intro X hP hw hK hc i pins s σ H E I hf st hg
  subst hP hw hK
  obtain ⟨f0, f1, f2, f3, f4, f5⟩ := hf it (by simp)
  have W := Walks.range (prog := X.prog) (w := X.w) (I.ok.hd hc) it lo 1 n
  refine W.item i s _ _ hg st fun v h' tk hv st' kk => ?_
  obtain ⟨t, rfl⟩ := hv
  have I1 : Inv X pins σ H { s with heap := h', toks := tk } := I.turned (fun b o hb e => kk b o (by simpa using hb) e) f0 f1 f3 f4 f5
  refine ⟨_, rfl, go_of (s := { s with heap := h', toks := tk }) (n := "range_iterator") st' rfl rfl (by decide) ⟨.int (lo + i), H, I1, ⟨t, ?_⟩, ⟨rfl, rfl⟩, st', fun b hb => (hf b hb).1⟩⟩
  rw [Int.mul_one]
 done := by
  intro X hP hw hK hc i pins s σ H E I hf st hg
  subst hP hw hK
  obtain ⟨f0, f1, f2, f3, f4, f5⟩ := hf it (by simp)
  exact wpAny_pyNext_range_end (I.ok.hd hc) st (by have : n <= i := hg; omega) fun h' eb => ⟨rfl, I.turned (t' := s.toks) (fun b o hb e => eb b o hb e) f0 f1 f3 f4 f5⟩
 self := fun _ _ _ _ _ st h => wpAny_pyIter_rangeiter st h
section
variable {X : Cx} {tg : Expr}
def iList (K : PySem.W.Frag) (tl : TE) : TI := fun σ H R => tl σ H fun x H1 => ∃ a, x = .ref a /\ (∃ xs, SqL K H1 a xs) /\ R (Itl K a) H1
theorem pi_list {l : Expr} {tl : TE} (hl : PE X l tl) : PI X tg l (iList X.K tl) := by
 intro pins s σ H R I h
 refine thn (hl pins s σ H _ I h) fun v s1 ⟨x, H1, I1, r1, q1⟩ => ?_
 obtain ⟨a, e, ⟨xs, hq⟩, q⟩ := q1
 subst e
 cases r1
 obtain ⟨its, rv, p, hz⟩ := I1.list hq
 refine wpAny_pyIter_list p.isList ?_
 refine ⟨s1.heap.objs.size, [s1.heap.objs.size], _, _, H1, rfl, I1.kept (t' := s1.toks) fun b o e => Heap.get?_push_of_some _ e, turn_list a _, ⟨_, Heap.get?_push_size _ rfl, rfl, rfl⟩, fun b hb => ?_, q⟩
 have e : b = s1.heap.objs.size := by simpa using hb
 subst e
 exact I1.fpOk (Nat.le_refl _) (I1.hok.fresh (Nat.le_refl _))
theorem range_it {pins : List (Addr × Obj)} {σ : St} {H : Hp} {s : Shared} {R : It -> Hp -> Prop} {E : Value -> Shared -> Prop} {lo hi : Int} {t u v : Tok} {tk : Nat} (I : Inv X pins σ H s) (h1 : -(2 ^ 62) <= lo) (h2 : lo < 2 ^ 62) (h3 : -(2 ^ 62) <= hi) (h4 : hi < 2 ^ 62)
 (q : R (Itr lo (hi - lo).toNat) H) : wpAny (model X.prog X.w) X.A (pyIter (.ref s.heap.objs.size)) (PIE X pins σ tg R) E { s with heap := s.heap.push { cls := .type "range", data := .fields #[.int lo t, .int hi u, .int 1 v] }, toks := tk } := by
 refine wpAny_pyIter_range (IsRange.new ..) (small_one h1 h2 h3 h4) ?_
 have I1 : Inv X pins σ H { s with heap := s.heap.push { cls := .type "range", data := .fields #[.int lo t, .int hi u, .int 1 v] }, toks := tk } := I.kept fun b o e => Heap.get?_push_of_some _ e
 refine ⟨(s.heap.push { cls := .type "range", data := .fields #[.int lo t, .int hi u, .int 1 v] }).objs.size, [(s.heap.push { cls := .type "range", data := .fields #[.int lo t, .int hi u, .int 1 v] }).objs.size], _, _, H, rfl,
  I1.kept (t' := tk) fun b o e => Heap.get?_push_of_some _ e, turn_range _ lo (hi - lo).toNat, ?_, fun b hb => ?_, q⟩
 . have e1 : lo + ((0 : Nat) : Int) * 1 = lo := by simp
   have e2 : (((hi - lo).toNat : Nat) : Int) - ((0 : Nat) : Int) = Builtin.Range.rangeSize lo hi 1 := by rw [rangeSize_one]; split <;> omega
   show IsRangeIter _ _ (lo + ((0 : Nat) : Int) * 1) ((((hi - lo).toNat : Nat) : Int) - ((0 : Nat) : Int)) 1
   rw [e1, e2]
   exact Heap.get?_push_size _ rfl
 . have e : b = (s.heap.push { cls := .type "range", data := .fields #[.int lo t, .int hi u, .int 1 v] }).objs.size := by simpa using hb
   subst e
   exact I1.fpOk (Nat.le_refl _) (I1.hok.fresh (Nat.le_refl _))
def iRng1 (ta : TA) : TI := fun σ H R => ta σ H fun vs H1 => ∃ j : Int, vs = [.int j] /\ -(2 ^ 62) <= j /\ j < 2 ^ 62 /\ R (Itr 0 j.toNat) H1
theorem pi_range1 {a : Expr} {ta : TA} {p pos : Pos} (hg : Gl X "range") (hm : X.mg "range" = none) (ha : PA X [a] ta) (hs : starEach [a] X.env = [(false, eval a X.env)] := by rfl) : PI X tg (.Call (.Name "range" p) [a] [] pos) (iRng1 ta) := by
 intro pins s σ H R I h
 refine Call_ (ld_blt I hg hm boot_range (PyProof.Rows.callWith_type1 (thn (ha pos pins s σ H _ I h) fun us s1 ⟨vs, H1, I1, r1, q1⟩ => ?_) hs rfl))
 obtain ⟨j, e, q1, q2, q⟩ := q1
 subst e
 cases r1 with
 | cons r rr =>
   cases rr
   obtain ⟨t, rfl⟩ := r
   exact call_range_1 (range_it I1 (by omega) (by omega) q1 q2 (by simpa using q))
def tFor (wi : TI) (g : TG) (tb : TS) : TS := fun D σ H => wi σ H fun J H1 => ∃ W : Nat -> Nat -> St -> Hp -> Prop, (∃ m, W 0 m σ H1) /\ ∀ i m σ H, W i m σ H ->
 (J.stop i H /\ D.nx σ H) \/ (J.go i H /\ ∃ N : St -> Hp -> Prop, (∀ σ' H', N σ' H' -> ∃ m', m' < m /\ W (i + 1) m' σ' H') /\ ∀ x H', J.yld i H x H' -> g x σ H' fun σ2 H2 => tb { D with nx := N, ct := N, bk := D.nx } σ2 H2)
def pinsAt (fp : List Addr) (h : Heap) : List (Addr × Obj) := fp.filterMap fun b => (h.get? b).map fun o => (b, o)
theorem mem_pinsAt {fp : List Addr} {h : Heap} {b : Addr} {o : Obj} (hb : b ∈ fp) (e : h.get? b = some o) : (b, o) ∈ pinsAt fp h := List.mem_filterMap.mpr ⟨b, hb, by rw [e]; rfl⟩
theorem of_pinsAt {fp : List Addr} {h : Heap} {p : Addr × Obj} (hp : p ∈ pinsAt fp h) : p.1 ∈ fp /\ h.get? p.1 = some p.2 := by
 obtain ⟨b, hb, e⟩ := List.mem_filterMap.mp hp
 cases q : h.get? b with
 | none => rw [q] at e; cases e
 | some o =>
   rw [q] at e
   have e' : (b, o) = p := Option.some.inj e
   subst e'
   exact ⟨hb, q⟩
theorem Inv.pinned {pins : List (Addr × Obj)} {σ : St} {H : Hp} {s : Shared} {fp : List Addr} (I : Inv X pins σ H s) (hf : ∀ b ∈ fp, FpOk X pins H b) (ho : ∀ b ∈ fp, ∃ o, s.heap.get? b = some o /\ ∀ v, o.data ≠ .cell v) : Inv X (pins ++ pinsAt fp s.heap) σ H s :=
 I.pins_of fun p hp => (List.mem_append.mp hp).elim (fun z => I.pin p (List.mem_append_right _ z)) fun z => by
  obtain ⟨hb, e⟩ := of_pinsAt z
  obtain ⟨f0, f1, f2, _⟩ := hf p.1 hb
  obtain ⟨o, e', d⟩ := ho p.1 hb
  rw [e] at e'; cases e'
  exact ⟨e, f0, f1, f2, d⟩
theorem Inv.unpinned {pins pl : List (Addr × Obj)} {σ : St} {H : Hp} {s : Shared} (I : Inv X (pins ++ pl) σ H s) : Inv X pins σ H s := I.pins_of fun p hp => I.pin p (List.mem_append_right _ (List.mem_append_left _ hp))
theorem ps_for {iter : Expr} {body : List Stmt} {wi : TI} {g : TG} {tb : TS} {pos : Pos} (hp : PassesOwn (model X.prog X.w) X.A X.env X.xe) (hc : X.calm = true) (hi : PI X tg iter wi) (hg : PG X tg g) (hb : PSs X body tb)
 (hs : ∀ x, foldedSetIterable iter X.env x = pure x := by intro _; rfl) : PS X (.For tg iter body [] pos) (tFor wi g tb) := by
 intro pins s σ H D I h
 refine wpAny_For (thn (hi pins s σ H _ I h) fun v s1 h1 => thn h1 fun itv s2 h2 => ?_) hs
 obtain ⟨it, fp, tn, J, H2, e, I2, T, st2, f2, W, ⟨m0, w0⟩, turn⟩ := h2
 subst e
 have stat : ∀ {H' : Hp}, (∀ b ∈ fp, H' b = none) -> ∀ b ∈ fp, FpOk X pins H' b := fun hn b hb => ⟨hn b hb, (f2 b hb).2⟩
 refine codeAny_forLoop_any (fun n s' => ∃ i σ' H', Inv X pins σ' H' s' /\ tn i s'.heap /\ (∀ b ∈ fp, H' b = none) /\ W i n σ' H') ?_ m0 ⟨0, σ, H2, I2, st2, fun b hb => (f2 b hb).1, w0⟩
 rintro n s3 ⟨i, σ3, H3, I3, st3, fr3, w3⟩
 rcases turn i n σ3 H3 w3 with ⟨stop, qn⟩ | ⟨go, N, hN, step⟩
 . refine wpAny_passesOwn hp (thn (T.done X rfl rfl rfl hc i pins s3 σ3 H3 X.xe I3 (stat fr3) st3 stop) fun r s4 ⟨hr, I4⟩ => ?_)
   subst hr
   exact wpAny_execs_nil ⟨σ3, H3, I4, qn⟩
 . refine wpAny_passesOwn hp (thn (T.item X rfl rfl rfl hc i pins s3 σ3 H3 X.xe I3 (stat fr3) st3 go) fun r s4 ⟨u, hr, h4⟩ => ?_)
   subst hr
   refine wpAny_passesOwn hp (thn h4 fun _ s5 ⟨x, H5, I5, r5, y5, st5, fr5⟩ => ?_)
   have I5' := I5.pinned (stat fr5) (T.obj _ _ st5)
   refine wpAny_passesOwn hp (thn (hg _ s5 σ3 H5 x u _ I5' r5 (step x H5 y5)) fun _ s6 ⟨σ6, H6, I6, q6⟩ => ?_)
   refine wpAny_passesOwn hp (thn (hb _ s6 σ6 H6 _ I6 q6) fun f s7 q7 => ?_)
   have again : ∀ {σ7 : St} {H7 : Hp}, Inv X (pins ++ pinsAt fp s5.heap) σ7 H7 s7 -> N σ7 H7 -> ∃ m, m < n /\ ∃ i σ' H', Inv X pins σ' H' s7 /\ tn i s7.heap /\ (∀ b ∈ fp, H' b = none) /\ W i m σ' H' := fun {σ7 H7} I7 n7 => by
    obtain ⟨m', hm, w7⟩ := hN σ7 H7 n7
    refine ⟨m', hm, i + 1, σ7, H7, I7.unpinned, T.keep _ _ _ st5 fun b hb o e => (I7.pin (b, o) (List.mem_append_right _ (List.mem_append_right _ (mem_pinsAt hb e)))).1, fun b hb => ?_, w7⟩
    obtain ⟨o, e, d⟩ := T.obj _ _ st5 b hb
    exact (I7.pin (b, o) (List.mem_append_right _ (List.mem_append_right _ (mem_pinsAt hb e)))).2.1
   cases f with
   | next => obtain ⟨σ7, H7, I7, n7⟩ := q7; exact again I7 n7
   | cont => obtain ⟨σ7, H7, I7, n7⟩ := q7; exact again I7 n7
   | brk => obtain ⟨σ7, H7, I7, q7⟩ := q7; exact ⟨σ7, H7, I7.unpinned, q7⟩
   | ret v => obtain ⟨x7, σ7, H7, I7, r7, q7⟩ := q7; exact ⟨x7, σ7, H7, I7.unpinned, r7, q7⟩
end
theorem for_list {K : PySem.W.Frag} {a : Addr} {xs : List V} {g : TG} {tb : TS} {D : Ends} {σ : St} {H : Hp} (Pv : Nat -> St -> Hp -> Prop) (h0 : Pv 0 σ H) (hl : ∀ i σ H, i <= xs.length -> Pv i σ H -> SqL K H a xs)
 (hs : ∀ i x σ H, xs[i]? = some x -> Pv i σ H -> g x σ H fun σ2 H2 => tb { D with nx := Pv (i + 1), ct := Pv (i + 1), bk := D.nx } σ2 H2) (hd : ∀ σ H, Pv xs.length σ H -> D.nx σ H) :
 ∃ W : Nat -> Nat -> St -> Hp -> Prop, (∃ m, W 0 m σ H) /\ ∀ i m σ H, W i m σ H ->
   ((Itl K a).stop i H /\ D.nx σ H) \/ ((Itl K a).go i H /\ ∃ N : St -> Hp -> Prop, (∀ σ' H', N σ' H' -> ∃ m', m' < m /\ W (i + 1) m' σ' H') /\ ∀ x H', (Itl K a).yld i H x H' -> g x σ H' fun σ2 H2 => tb { D with nx := N, ct := N, bk := D.nx } σ2 H2) := by
 refine ⟨fun i m σ H => m = xs.length - i /\ i <= xs.length /\ Pv i σ H, ⟨xs.length, by simp, Nat.zero_le _, h0⟩, ?_⟩
 rintro i m σ H ⟨rfl, hi, p⟩
 have q := hl i σ H hi p
 by_cases hlt : i < xs.length
 . refine .inr ⟨⟨xs, xs[i], q, by simp [hlt]⟩, Pv (i + 1), fun σ' H' p' => ⟨xs.length - (i + 1), by omega, rfl, hlt, p'⟩, fun x H' y => ?_⟩
   obtain ⟨e, y⟩ := y
   subst e
   exact hs i x σ _ (y xs q) p
 . have e : i = xs.length := by omega
   subst e
   exact .inl ⟨⟨xs, q, Nat.le_refl _⟩, hd σ H p⟩
theorem for_range {lo : Int} {n : Nat} {g : TG} {tb : TS} {D : Ends} {σ : St} {H : Hp} (Pv : Nat -> St -> Hp -> Prop) (h0 : Pv 0 σ H)
 (hs : ∀ i σ H, i < n -> Pv i σ H -> g (.int (lo + i)) σ H fun σ2 H2 => tb { D with nx := Pv (i + 1), ct := Pv (i + 1), bk := D.nx } σ2 H2) (hd : ∀ σ H, Pv n σ H -> D.nx σ H) :
 ∃ W : Nat -> Nat -> St -> Hp -> Prop, (∃ m, W 0 m σ H) /\ ∀ i m σ H, W i m σ H ->
   ((Itr lo n).stop i H /\ D.nx σ H) \/ ((Itr lo n).go i H /\ ∃ N : St -> Hp -> Prop, (∀ σ' H', N σ' H' -> ∃ m', m' < m /\ W (i + 1) m' σ' H') /\ ∀ x H', (Itr lo n).yld i H x H' -> g x σ H' fun σ2 H2 => tb { D with nx := N, ct := N, bk := D.nx } σ2 H2) := by
 refine ⟨fun i m σ H => m = n - i /\ i <= n /\ Pv i σ H, ⟨n, by simp, Nat.zero_le _, h0⟩, ?_⟩
 rintro i m σ H ⟨rfl, hi, p⟩
 by_cases hlt : i < n
 . refine .inr ⟨hlt, Pv (i + 1), fun σ' H' p' => ⟨n - (i + 1), by omega, rfl, hlt, p'⟩, fun x H' y => ?_⟩
   obtain ⟨e, y⟩ := y
   subst e y
   exact hs i σ _ hlt p
 . have e : i = n := by omega
   subst e
   exact .inl ⟨Nat.le_refl _, hd σ H p⟩
abbrev R2 := V -> V -> Hp -> VK -> Prop
def OpR (X : Cx) (f : Value -> Value -> Sem Value) (r : R2) : Prop :=
 ∀ (pins : List (Addr × Obj)) (s : Shared) (σ : St) (H : Hp) (x y : V) (v u : Value) (Q : VK), Inv X pins σ H s -> RelV x v -> RelV y u -> r x y H Q ->
   wpAny (model X.prog X.w) X.A (f v u) (EP X pins σ Q) X.xe s
def UnR (X : Cx) (f : Value -> Sem Value) (r : V -> Hp -> VK -> Prop) : Prop :=
 ∀ (pins : List (Addr × Obj)) (s : Shared) (σ : St) (H : Hp) (x : V) (v : Value) (Q : VK), Inv X pins σ H s -> RelV x v -> r x H Q ->
   wpAny (model X.prog X.w) X.A (f v) (EP X pins σ Q) X.xe s
def CallR (X : Cx) (f : Value) (r : List V -> Hp -> VK -> Prop) : Prop :=
 ∀ (pins : List (Addr × Obj)) (s : Shared) (σ : St) (H : Hp) (xs : List V) (us : List Value) (Q : VK), Inv X pins σ H s -> Vals xs us -> r xs H Q ->
   wpAny (model X.prog X.w) X.A (call f us) (EP X pins σ Q) X.xe s
def TruR (X : Cx) (r : V -> Hp -> (Bool -> Hp -> Prop) -> Prop) : Prop :=
 ∀ (pins : List (Addr × Obj)) (s : Shared) (σ : St) (H : Hp) (x : V) (v : Value) (Q : Bool -> Hp -> Prop), Inv X pins σ H s -> RelV x v -> r x H Q ->
   wpAny (model X.prog X.w) X.A (truthy v) (TP X pins σ Q) X.xe s
def tOp (r : R2) (ta tb : TE) : TE := fun σ H Q => ta σ H fun x H1 => tb σ H1 fun y H2 => r x y H2 Q
def tUn (r : V -> Hp -> VK -> Prop) (ta : TE) : TE := fun σ H Q => ta σ H fun x H1 => r x H1 Q
def rI (C : Int -> Int -> Prop) (g : Int -> Int -> V) : R2 := fun x y H Q => ∃ i j, x = .int i /\ y = .int j /\ C i j /\ Q (g i j) H
def rI0 (g : Int -> Int -> V) : R2 := fun x y H Q => ∃ i j, x = .int i /\ y = .int j /\ Q (g i j) H
def rU (g : Int -> V) : V -> Hp -> VK -> Prop := fun x H Q => ∃ i, x = .int i /\ Q (g i) H
section
variable {X : Cx} {a b c : Expr} {ta tb tc : TE} {pos : Pos}
theorem binT (ha : PE X a ta) (hb : PE X b tb) {pins : List (Addr × Obj)} {s : Shared} {σ : St} {H : Hp} {R : V -> V -> Hp -> Prop} (I : Inv X pins σ H s)
 (h : ta σ H fun x H1 => tb σ H1 fun y H2 => R x y H2) {Q : Value -> Shared -> Prop} {f : Value -> Value -> Sem Value}
 (hf : ∀ v u s2 x y H2, Inv X pins σ H2 s2 -> RelV x v -> RelV y u -> R x y H2 -> wpAny (model X.prog X.w) X.A (f v u) Q X.xe s2) :
 wpAny (model X.prog X.w) X.A (eval a X.env) (fun v s₁ => wpAny (model X.prog X.w) X.A (eval b X.env) (fun u s₂ => wpAny (model X.prog X.w) X.A (f v u) Q X.xe s₂) X.xe s₁) X.xe s := by
 refine thn (ha pins s σ H _ I h) fun v s1 ⟨x, H1, I1, r1, q1⟩ => ?_
 refine thn (hb pins s1 σ H1 _ I1 q1) fun u s2 ⟨y, H2, I2, r2, q2⟩ => ?_
 exact hf v u s2 x y H2 I2 r1 r2 q2
theorem pe_op {op : Operator} {r : R2} (ho : OpR X (binaryOp op) r) (ha : PE X a ta) (hb : PE X b tb) : PE X (.BinOp a op b pos) (tOp r ta tb) := by
 intro pins s σ H Q I h
 exact wpAny_BinOp (binT ha hb I h fun v u s2 x y H2 I2 rx ry q => ho pins s2 σ H2 x y v u Q I2 rx ry q)
theorem pe_un {op : UnaryOp} {r : V -> Hp -> VK -> Prop} (ho : UnR X (unaryOp op) r) (ha : PE X a ta) : PE X (.UnaryOp op a pos) (tUn r ta) := by
 intro pins s σ H Q I h
 exact UnaryOp_ (thn (ha pins s σ H _ I h) fun v s1 ⟨x, H1, I1, r1, q1⟩ => ho pins s1 σ H1 x v Q I1 r1 q1)
theorem opI {f : Value -> Value -> Sem Value} {C : Int -> Int -> Prop} {g : Int -> Int -> Int}
 (rule : ∀ (i j : Int) (t u : Tok) (s : Shared) (Q : Value -> Shared -> Prop) (E : Value -> Shared -> Prop), C i j -> Q (.int (g i j) s.toks) { s with toks := s.toks + 1 } -> wpAny (model X.prog X.w) X.A (f (.int i t) (.int j u)) Q E s) :
 OpR X f (rI C fun i j => .int (g i j)) := by
 intro pins s σ H x y v u Q I rx ry h
 obtain ⟨i, j, rfl, rfl, hc, q⟩ := h
 obtain ⟨t, rfl⟩ := rx
 obtain ⟨t', rfl⟩ := ry
 exact rule i j t t' s _ _ hc ⟨.int (g i j), H, I.tok _, ⟨_, rfl⟩, q⟩
theorem opI0 {f : Value -> Value -> Sem Value} {g : Int -> Int -> Int}
 (rule : ∀ (i j : Int) (t u : Tok) (s : Shared) (Q : Value -> Shared -> Prop) (E : Value -> Shared -> Prop), Q (.int (g i j) s.toks) { s with toks := s.toks + 1 } -> wpAny (model X.prog X.w) X.A (f (.int i t) (.int j u)) Q E s) :
 OpR X f (rI0 fun i j => .int (g i j)) := by
 intro pins s σ H x y v u Q I rx ry h
 obtain ⟨i, j, rfl, rfl, q⟩ := h
 obtain ⟨t, rfl⟩ := rx
 obtain ⟨t', rfl⟩ := ry
 exact rule i j t t' s _ _ ⟨.int (g i j), H, I.tok _, ⟨_, rfl⟩, q⟩
theorem opB0 {f : Value -> Value -> Sem Value} {g : Int -> Int -> Bool}
 (rule : ∀ (i j : Int) (t u : Tok) (s : Shared) (Q : Value -> Shared -> Prop) (E : Value -> Shared -> Prop), Q (.bool (g i j)) s -> wpAny (model X.prog X.w) X.A (f (.int i t) (.int j u)) Q E s) :
 OpR X f (rI0 fun i j => .bl (g i j)) := by
 intro pins s σ H x y v u Q I rx ry h
 obtain ⟨i, j, rfl, rfl, q⟩ := h
 obtain ⟨t, rfl⟩ := rx
 obtain ⟨t', rfl⟩ := ry
 exact rule i j t t' s _ _ ⟨.bl (g i j), H, I, rfl, q⟩
def CPow (i j : Int) : Prop := 0 <= j /\ j <= 1000000 /\ i.natAbs < 2 ^ 64
def CMul (i j : Int) : Prop := (-(2 ^ 64) < i /\ i < 2 ^ 64) \/ (-(2 ^ 64) < j /\ j < 2 ^ 64)
theorem CMul.ok {i j : Int} (h : CMul i j) : IntMulOk i j := by
 rcases h with ⟨h1, h2⟩ | ⟨h1, h2⟩
 . exact .of_left (intBits_le_64 h1 h2)
 . exact .of_right (intBits_le_64 h1 h2)
theorem op_add : OpR X (binaryOp .Add) (rI0 fun i j => .int (i + j)) := opI0 fun _ _ _ _ _ _ _ q => add_int q
theorem op_sub : OpR X (binaryOp .Sub) (rI0 fun i j => .int (i - j)) := opI0 fun _ _ _ _ _ _ _ q => sub_int q
theorem op_mul : OpR X (binaryOp .Mult) (rI CMul fun i j => .int (i * j)) := opI fun _ _ _ _ _ _ _ hc q => mul_int q hc.ok
theorem op_mod : OpR X (binaryOp .Mod) (rI (fun _ j => 0 < j) fun i j => .int (i % j)) := opI fun i j _ _ _ _ _ hc q => by
 have h1 : (0 : Int) < j := hc
 exact mod_int' (by omega) (by rw [Int.fmod_eq_emod_of_nonneg i (by omega)]; exact q)
theorem op_pow : OpR X (binaryOp .Pow) (rI CPow fun i j => .int (i ^ j.toNat)) := opI fun _ _ _ _ _ _ _ hc q => pow_int_small hc.1 hc.2.1 hc.2.2 q
theorem op_shl : OpR X (binaryOp .LShift) (rI CPow fun i j => .int (i * 2 ^ j.toNat)) := opI fun _ _ _ _ _ _ _ hc q => lshift_int_small hc.1 hc.2.1 hc.2.2 q
theorem op_and : OpR X (binaryOp .BitAnd) (rI0 fun i j => .int (Builtin.bitAnd i j)) := opI0 fun _ _ _ _ _ _ _ q => and_int q
theorem op_or : OpR X (binaryOp .BitOr) (rI0 fun i j => .int (Builtin.bitOr i j)) := opI0 fun _ _ _ _ _ _ _ q => or_int q
theorem op_xor : OpR X (binaryOp .BitXor) (rI0 fun i j => .int (Builtin.bitXor i j)) := opI0 fun _ _ _ _ _ _ _ q => xor_int q
theorem unI {f : Value -> Sem Value} {g : Int -> Int}
 (rule : ∀ (i : Int) (t : Tok) (s : Shared) (Q : Value -> Shared -> Prop) (E : Value -> Shared -> Prop), Q (.int (g i) s.toks) { s with toks := s.toks + 1 } -> wpAny (model X.prog X.w) X.A (f (.int i t)) Q E s) :
 UnR X f (rU fun i => .int (g i)) := by
 intro pins s σ H x v Q I rx h
 obtain ⟨i, rfl, q⟩ := h
 obtain ⟨t, rfl⟩ := rx
 exact rule i t s _ _ ⟨.int (g i), H, I.tok _, ⟨_, rfl⟩, q⟩
theorem un_neg : UnR X (unaryOp .USub) (rU fun i => .int (-i)) := unI fun _ _ _ _ _ q => neg_int q
end
def scal : V -> V -> Bool
 | .non, .non => true | .non, .int _ => true | .int _, .non => true | .non, .bl _ => true | .bl _, .non => true | .non, .str _ => true | .str _, .non => true
 | .int _, .int _ => true | .bl _, .bl _ => true | .str _, .str _ => true | .byt _, .byt _ => true
 | .int _, .str _ => true | .str _, .int _ => true | .bl _, .str _ => true | .str _, .bl _ => true
 | _, _ => false
def rEq : R2 := fun x y H Q => scal x y = true /\ Q (.bl (decide (x = y))) H
def rNe : R2 := fun x y H Q => scal x y = true /\ Q (.bl (!decide (x = y))) H
theorem dec_int {i j : Int} : decide (V.int i = V.int j) = (i == j) := by
 rw [Bool.eq_iff_iff]
 simp
theorem dec_bl {i j : Bool} : decide (V.bl i = V.bl j) = (i == j) := by
 rw [Bool.eq_iff_iff]
 simp
theorem dec_str {i j : Str} : decide (V.str i = V.str j) = (i == j) := by
 rw [Bool.eq_iff_iff]
 simp
theorem dec_byt {i j : Array UInt8} : decide (V.byt i = V.byt j) = (i.toList == j.toList) := by
 rw [Bool.eq_iff_iff]
 cases i
 cases j
 simp
section
variable {X : Cx} {a b c : Expr} {ta tb tc : TE} {pos : Pos}
theorem fin_bl {pins : List (Addr × Obj)} {σ : St} {H : Hp} {s : Shared} {Q : VK} {k k' : Bool} (I : Inv X pins σ H s) (q : Q (.bl k) H) (e : k = k') : EP X pins σ Q (.bool k') s := by
 subst e
 exact ⟨.bl k, H, I, rfl, q⟩
theorem op_eq : OpR X (compareOp .Eq) rEq := by
 intro pins s σ H x y v u Q I rx ry h
 obtain ⟨hs, q⟩ := h
 cases x with
 | non =>
   cases rx
   cases y with
   | non => cases ry; exact PySem.EqNone.eq_none_none (fin_bl I q (by simp))
   | bl j => cases ry; exact PySem.EqNone.eq_none_bool (fin_bl I q (by simp))
   | int j => obtain ⟨t', rfl⟩ := ry; exact PySem.EqNone.eq_none_int (fin_bl I q (by simp))
   | str j => obtain ⟨t', rfl⟩ := ry; exact PySem.EqNone.eq_none_str (fin_bl I q (by simp))
   | _ => exact absurd (show false = true from hs) Bool.false_ne_true
 | bl i =>
   cases rx
   cases y with
   | non => cases ry; exact PySem.EqNone.eq_bool_none (fin_bl I q (by simp))
   | bl j => cases ry; exact eq_bool (fin_bl I q dec_bl)
   | str j => obtain ⟨t', rfl⟩ := ry; exact PySem.EqMixed.eq_bool_str (fin_bl I q (by simp))
   | _ => exact absurd (show false = true from hs) Bool.false_ne_true
 | int i =>
   obtain ⟨t, rfl⟩ := rx
   cases y with
   | non => cases ry; exact PySem.EqNone.eq_int_none (fin_bl I q (by simp))
   | int j => obtain ⟨t', rfl⟩ := ry; exact eq_int (fin_bl I q dec_int)
   | str j => obtain ⟨t', rfl⟩ := ry; exact PySem.EqMixed.eq_int_str (fin_bl I q (by simp))
   | _ => exact absurd (show false = true from hs) Bool.false_ne_true
 | str i =>
   obtain ⟨t, rfl⟩ := rx
   cases y with
   | non => cases ry; exact PySem.EqNone.eq_str_none (fin_bl I q (by simp))
   | bl j => cases ry; exact PySem.EqMixed.eq_str_bool (fin_bl I q (by simp))
   | int j => obtain ⟨t', rfl⟩ := ry; exact PySem.EqMixed.eq_str_int (fin_bl I q (by simp))
   | str j => obtain ⟨t', rfl⟩ := ry; exact eq_str (fin_bl I q dec_str)
   | _ => exact absurd (show false = true from hs) Bool.false_ne_true
 | byt i =>
   obtain ⟨t, rfl⟩ := rx
   cases y with
   | byt j => obtain ⟨t', rfl⟩ := ry; exact PySem.W.eq_bytes (fin_bl I q dec_byt)
   | _ => exact absurd (show false = true from hs) Bool.false_ne_true
 | _ => cases y <;> exact absurd (show false = true from hs) Bool.false_ne_true
theorem op_ne : OpR X (compareOp .NotEq) rNe := by
 intro pins s σ H x y v u Q I rx ry h
 obtain ⟨hs, q⟩ := h
 cases x with
 | non =>
   cases rx
   cases y with
   | non => cases ry; exact PySem.EqNone.ne_none_none (fin_bl I q (by simp))
   | bl j => cases ry; exact PySem.EqNone.ne_none_bool (fin_bl I q (by simp))
   | int j => obtain ⟨t', rfl⟩ := ry; exact PySem.EqNone.ne_none_int (fin_bl I q (by simp))
   | str j => obtain ⟨t', rfl⟩ := ry; exact PySem.EqNone.ne_none_str (fin_bl I q (by simp))
   | _ => exact absurd (show false = true from hs) Bool.false_ne_true
 | bl i =>
   cases rx
   cases y with
   | non => cases ry; exact PySem.EqNone.ne_bool_none (fin_bl I q (by simp))
   | bl j => cases ry; exact ne_bool (fin_bl I q (congrArg not dec_bl))
   | str j => obtain ⟨t', rfl⟩ := ry; exact PySem.EqMixed.ne_bool_str (fin_bl I q (by simp))
   | _ => exact absurd (show false = true from hs) Bool.false_ne_true
 | int i =>
   obtain ⟨t, rfl⟩ := rx
   cases y with
   | non => cases ry; exact PySem.EqNone.ne_int_none (fin_bl I q (by simp))
   | int j => obtain ⟨t', rfl⟩ := ry; exact ne_int (fin_bl I q (congrArg not dec_int))
   | str j => obtain ⟨t', rfl⟩ := ry; exact PySem.EqMixed.ne_int_str (fin_bl I q (by simp))
   | _ => exact absurd (show false = true from hs) Bool.false_ne_true
 | str i =>
   obtain ⟨t, rfl⟩ := rx
   cases y with
   | non => cases ry; exact PySem.EqNone.ne_str_none (fin_bl I q (by simp))
   | bl j => cases ry; exact PySem.EqMixed.ne_str_bool (fin_bl I q (by simp))
   | int j => obtain ⟨t', rfl⟩ := ry; exact PySem.EqMixed.ne_str_int (fin_bl I q (by simp))
   | str j => obtain ⟨t', rfl⟩ := ry; exact ne_str (fin_bl I q (congrArg not dec_str))
   | _ => exact absurd (show false = true from hs) Bool.false_ne_true
 | byt i =>
   obtain ⟨t, rfl⟩ := rx
   cases y with
   | byt j => obtain ⟨t', rfl⟩ := ry; exact PySem.W.ne_bytes (fin_bl I q (congrArg not dec_byt))
   | _ => exact absurd (show false = true from hs) Bool.false_ne_true
 | _ => cases y <;> exact absurd (show false = true from hs) Bool.false_ne_true
theorem op_lt : OpR X (compareOp .Lt) (rI0 fun i j => .bl (decide (i < j))) := opB0 fun _ _ _ _ _ _ _ q => lt_int q
theorem op_le : OpR X (compareOp .LtE) (rI0 fun i j => .bl (decide (i <= j))) := opB0 fun _ _ _ _ _ _ _ q => le_int q
theorem op_gt : OpR X (compareOp .Gt) (rI0 fun i j => .bl (decide (j < i))) := opB0 fun _ _ _ _ _ _ _ q => gt_int q
theorem op_isN : OpR X (compareOp .Is) (fun x y H Q => y = .non /\ Q (.bl (decide (x = .non))) H) := by
 intro pins s σ H x y v u Q I rx ry h
 obtain ⟨rfl, q⟩ := h
 cases ry
 refine is_none_gen (fin_bl I q ?_)
 cases x <;> first
  | (cases rx; rfl)
  | (obtain ⟨t, rfl⟩ := rx; rfl)
theorem nomark (b : Expr) {op : CmpOp} (h : op ≠ .In := by decide) (h2 : op ≠ .NotIn := by decide) : behindInMarks op b = false := by
 have e1 : (op == CmpOp.In) = false := by cases op <;> first | rfl | exact absurd rfl h
 have e2 : (op == CmpOp.NotIn) = false := by cases op <;> first | rfl | exact absurd rfl h2
 cases b <;> simp [behindInMarks, e1, e2]
theorem pe_cmpR {op : CmpOp} {r : R2} (ho : OpR X (compareOp op) r) (ha : PE X a ta) (hb : PE X b tb) (hm : behindInMarks op b = false) : PE X (.Compare a [op] [b] pos) (tOp r ta tb) := by
 intro pins s σ H Q I h
 exact wpAny_Compare1 (binT ha hb I h fun v u s2 x y H2 I2 rx ry q => ho pins s2 σ H2 x y v u Q I2 rx ry q) hm
def tTest (t : TE) : TT := fun σ H Q => t σ H fun x H' => ∃ k, x = .bl k /\ Q k H'
theorem pt_cmpR {op : CmpOp} {r : R2} (ho : OpR X (compareOp op) r) (ha : PE X a ta) (hb : PE X b tb) (hm : behindInMarks op b = false) : PT X (.Compare a [op] [b] pos) (tTest (tOp r ta tb)) := by
 intro pins s σ H Q I h
 refine wpAny_isTrue_Compare1 (thn (ha pins s σ H _ I h) fun v s1 ⟨x, H1, I1, r1, q1⟩ => thn (hb pins s1 σ H1 _ I1 q1) fun u s2 ⟨y, H2, I2, r2, q2⟩ =>
  thn (ho pins s2 σ H2 x y v u _ I2 r1 r2 q2) fun c s3 ⟨z, H3, I3, r3, k, e, q3⟩ => ?_) hm
 subst e
 cases r3
 exact wpAny_truthy_bool ⟨H3, I3, q3⟩
def tChain (r r' : R2) (ta tb tc : TE) : TE := fun σ H Q => ta σ H fun x H1 => tb σ H1 fun y H2 => r x y H2 fun z H3 => ∃ k, z = .bl k /\
 (if k = true then tc σ H3 fun w' H4 => r' y w' H4 Q else Q (.bl false) H3)
theorem pt_chain {op op' : CmpOp} {r r' : R2} (ho : OpR X (compareOp op) r) (ho' : OpR X (compareOp op') r') (ha : PE X a ta) (hb : PE X b tb) (hc : PE X c tc)
 (hm : lastMarks [op, op'] [b, c] = false := by with_unfolding_all rfl) : PT X (.Compare a [op, op'] [b, c] pos) (tTest (tChain r r' ta tb tc)) := by
 intro pins s σ H Q I h
 refine isTrue_chain (thn (ha pins s σ H _ I h) fun v s1 ⟨x, H1, I1, r1, q1⟩ => test_link (thn (hb pins s1 σ H1 _ I1 q1) fun u s2 ⟨y, H2, I2, r2, q2⟩ =>
  thn (ho pins s2 σ H2 x y v u _ I2 r1 r2 q2) fun d s3 ⟨z, H3, I3, r3, k, e, q3⟩ => ?_)) hm
 subst e
 cases r3
 refine wpAny_truthy_bool ?_
 cases k with
 | false =>
   obtain ⟨k', e', q'⟩ := q3
   cases e'
   exact ite_ff ⟨H3, I3, q'⟩
 | true =>
   refine ite_tt (test_last (thn (hc pins s3 σ H3 _ I3 q3) fun w' s4 ⟨z', H4, I4, r4, q4⟩ => thn (ho' pins s4 σ H4 y z' u w' _ I4 r2 r4 q4) fun d' s5 ⟨z2, H5, I5, r5, k2, e2, q5⟩ => ?_))
   subst e2
   cases r5
   exact wpAny_truthy_bool ⟨H5, I5, q5⟩
def TruV (K : PySem.W.Frag) (x : V) (H : Hp) (k : Bool) : Prop :=
 match x with
 | .non => k = false
 | .bl b => k = b
 | .int i => k = (i != 0)
 | .str y => y.length <= sizeLine /\ k = ((y.length : Int) != 0)
 | .byt y => y.size <= sizeLine /\ k = ((y.size : Int) != 0)
 | .ref p => (∃ xs, SqL K H p xs /\ k = !xs.isEmpty) \/ (∃ xs, SqT K H p xs /\ k = !xs.isEmpty) \/ ∃ kvs, H p = some (.dK kvs) /\ k = !kvs.isEmpty
 | _ => False
theorem isEmpty_kv {κ : Type} {kvs : List (κ × V)} {vs : List (κ × Value)} (r : KV kvs vs) : (!vs.isEmpty) = !kvs.isEmpty := by
 cases r <;> rfl
theorem isEmpty_of {xs : List V} {its : List Value} (r : Vals xs its) : (!its.toArray.isEmpty) = !xs.isEmpty := by
 cases r <;> simp
theorem line63 : (sizeLine : Nat) < 2 ^ 63 := by rw [sizeLine_eq]; decide
theorem tru_ok : TruR X (fun x H Q => ∃ k, TruV X.K x H k /\ Q k H) := by
 intro pins s σ H x v Q I rx h
 obtain ⟨k, e, q⟩ := h
 have hl := line63
 have hs : sizeLine = 16777216 := sizeLine_eq
 cases x with
 | non =>
   cases rx
   have e' : k = false := e
   subst e'
   exact truthy_none ⟨H, I, q⟩
 | bl b =>
   cases rx
   have e' : k = b := e
   subst e'
   exact wpAny_truthy_bool ⟨H, I, q⟩
 | int i =>
   obtain ⟨t, rfl⟩ := rx
   have e' : k = (i != 0) := e
   subst e'
   exact PySem.P.truthy_int ⟨H, I, q⟩
 | str y =>
   obtain ⟨t, rfl⟩ := rx
   obtain ⟨hy, e'⟩ : y.length <= sizeLine /\ k = ((y.length : Int) != 0) := e
   subst e'
   exact PySem.P.truthy_str (by omega) ⟨H, I.tok _, q⟩
 | byt y =>
   obtain ⟨t, rfl⟩ := rx
   obtain ⟨hy, e'⟩ : y.size <= sizeLine /\ k = ((y.size : Int) != 0) := e
   subst e'
   exact PySem.W.truthy_bytes (by omega) ⟨H, I.tok _, q⟩
 | ref p =>
   cases rx
   have e' : (∃ xs, SqL X.K H p xs /\ k = !xs.isEmpty) \/ (∃ xs, SqT X.K H p xs /\ k = !xs.isEmpty) \/ ∃ kvs, H p = some (.dK kvs) /\ k = !kvs.isEmpty := e
   rcases e' with ⟨xs, hx, e'⟩ | ⟨xs, hx, e'⟩ | ⟨kvs, hx, e'⟩
   . subst e'
     obtain ⟨its, r, pl, hz⟩ := I.list hx
     have hlen := r.length
     exact wpAny_truthy_list pl.isList (by simp only [List.size_toArray]; omega) ⟨H, I.tok _, by rw [isEmpty_of r]; exact q⟩
   . subst e'
     obtain ⟨its, r, pl, hz⟩ := I.tuple hx
     have hlen := r.length
     exact truthy_tuple pl (by simp only [List.size_toArray]; omega) ⟨H, I.tok _, by rw [isEmpty_of r]; exact q⟩
   . subst e'
     obtain ⟨hz, hS, vs, r, m⟩ : kvs.length <= sizeLine /\ (p == sysModules) = false /\ ∃ vs, KV kvs vs /\ s.heap.DictOf (mixKind X.prog X.w) p vs := I.hok p _ hx
     have hlen : kvs.length = vs.length := Paired.length r
     exact wpAny_truthy_dict hS m (by omega) ⟨H, I.tok _, by rw [isEmpty_kv r]; exact q⟩
 | _ => exact (show False from e).elim
theorem pt_truth (ha : PE X a ta) (he : ∀ whole, isTrue a X.env whole = (do let v <- whole; standAt a.pos; holding [v] (truthy v))) :
 PT X a (fun σ H Q => ta σ H fun x H' => ∃ k, TruV X.K x H' k /\ Q k H') := by
 intro pins s σ H Q I h
 exact isTrue_plain (thn (ha pins s σ H _ I h) fun v s1 ⟨x, H1, I1, r1, q1⟩ => tru_ok pins s1 σ H1 x v Q I1 r1 q1) (he _)
theorem op_add_str : OpR X (binaryOp .Add) (fun x y H Q => ∃ i j, x = .str i /\ y = .str j /\ i.length + j.length <= sizeLine /\ Q (.str (i ++ j)) H) := by
 intro pins s σ H x y v u Q I rx ry h
 obtain ⟨i, j, rfl, rfl, hz, q⟩ := h
 obtain ⟨t, rfl⟩ := rx
 obtain ⟨t', rfl⟩ := ry
 exact add_str (fun t' tk => ⟨.str (i ++ j), H, I.tok _, ⟨_, rfl⟩, q⟩) hz
theorem vals1 {x : V} {us : List Value} (r : Vals [x] us) : ∃ u, us = [u] /\ RelV x u := by
 cases r with
 | cons r1 r2 => cases r2; exact ⟨_, rfl, r1⟩
theorem vals2 {x y : V} {us : List Value} (r : Vals [x, y] us) : ∃ u w', us = [u, w'] /\ RelV x u /\ RelV y w' := by
 cases r with
 | cons r1 r2 =>
   cases r2 with
   | cons r3 r4 => cases r4; exact ⟨_, _, rfl, r1, r3⟩
theorem call_max2 (hc : X.calm = true) : CallR X (.builtin "max") (fun xs H Q => ∃ i j, xs = [.int i, .int j] /\ Q (.int (if j > i then j else i)) H) := by
 intro pins s σ H xs us Q I r h
 obtain ⟨i, j, rfl, q⟩ := h
 obtain ⟨u, w', rfl, ⟨t, rfl⟩, ⟨t', rfl⟩⟩ := vals2 r
 refine max_two_ints (I.ok.hd hc) fun h' tk k => ⟨_, H, I.kept k, ?_, q⟩
 by_cases hj : j > i
 . rw [if_pos hj, if_pos hj]; exact ⟨_, rfl⟩
 . rw [if_neg hj, if_neg hj]; exact ⟨_, rfl⟩
end
structure ObjM (h : Heap) (x dx C : Addr) (mA : Str -> Option Value) : Prop where
 obj : h.get? x = some (PySem.W.instObj C dx)
 ns : h.Ns1 dx mA
 ne : dx ≠ x
theorem lookIn_ns {h : Heap} {dx : Addr} {mA : Str -> Option Value} (n : h.Ns1 dx mA) : ∃ od, h.get? dx = some od /\ ∀ name, PySem.W.lookIn name od = some (mA name) := by
 obtain ⟨o, es, ep, ho, hd, hk, _, hm⟩ := n
 refine ⟨o, ho, fun name => ?_⟩
 have e := hm name
 unfold nsFind findBy at e
 rw [<- Array.find?_toList] at e
 unfold PySem.W.lookIn
 rw [hd]
 dsimp only
 split
 . rename_i y q
   rw [q] at e
   exact congrArg some e
 . rename_i q
   rw [q] at e
   have a : es.toList.any (·.refKey) = false := by
    rw [List.any_eq_false]
    intro y hy
    obtain ⟨z, t, hkey⟩ := hk y (Array.mem_toList_iff.mp hy)
    simp [DictEntry.refKey, hkey]
   have a' : ¬ es.toList.any (·.refKey) = true := by rw [a]; exact Bool.false_ne_true
   rw [if_neg a']
   exact congrArg some e
theorem ObjM.look {h : Heap} {x dx C : Addr} {mA : Str -> Option Value} (I : ObjM h x dx C mA) : ∃ od, PySem.W.InstAt h x (PySem.W.instObj C dx) C (some od) /\ ∀ name, PySem.W.lookIn name od = some (mA name) :=
 let ⟨od, ho, hl⟩ := lookIn_ns I.ns
 ⟨od, ⟨I.obj, rfl, rfl, ho⟩, hl⟩
section
variable {prog : Program} {w : World} {A : Around} {E : Value -> Shared -> Prop} {s : Shared} {K : PySem.W.Frag} {x dx C f : Addr} {mA : Str -> Option Value} {name : Str} {v : Value}
theorem get_map {expr : Bool} {Q : Value -> Shared -> Prop} (X : K.In s.heap) (I : ObjM s.heap x dx C mA) (hg : PySem.W.plainGet K C name = true) (hh : PySem.W.hasDictIn K C = true)
 (ha : PySem.W.findIn K (.ref C) name = some none) (hv : mA name = some v) (hv' : PySem.W.handedIn v = true) (h : Q v { s with toks := s.toks + 1 }) :
 wpAny (model prog w) A (getAttr (.ref x) name expr) Q E s := by
 obtain ⟨od, J, hl⟩ := I.look
 exact PySem.W.get_value X J (PySem.W.plainGet_of hg).1 (PySem.W.findObj_own hh ha rfl (by rw [hl, hv])) hv' h
theorem get_meth {pl : Sem Bool} {Q : Value × List Value -> Shared -> Prop} (X : K.In s.heap) (I : ObjM s.heap x dx C mA) (hg : PySem.W.plainGet K C name = true)
 (hf : PySem.W.findIn K (.ref C) name = some (some (.ref f))) (ht : PySem.W.isFn K (.ref f) = true) (hv : mA name = none) (h : Q (.ref f, [.ref x]) s) :
 wpAny (model prog w) A (getMethod (.ref x) name pl) Q E s := by
 obtain ⟨od, J, hl⟩ := I.look
 exact PySem.W.method_fn X J (PySem.W.plainGet_of hg).1 (PySem.W.plainGet_of hg).2 hf (beq_iff_eq.mp ht) (by show (PySem.W.lookIn name od).map (·.isSome) = some false; rw [hl, hv]; rfl) h
theorem set_map {ns : List Str} {Q : Unit -> Shared -> Prop} (X : K.In s.heap) (I : ObjM s.heap x dx C mA)
 (hs : PySem.W.findIn K (.ref C) "__setattr__" = some (some (.builtin "object.__setattr__"))) (hp : PySem.W.plainOver K C = true) (ht : PySem.W.takerIn K C name = some none) (hh : PySem.W.hasDictIn K C = true)
 (hw : PySem.Within mA ns) (hsz : ns.length <= sizeLine)
 (h : ∀ h', ObjM h' x dx C (fun y => if y = name then some v else mA y) -> Heap.SameBut dx s.heap h' -> Q () { s with heap := h', toks := s.toks + 2 }) :
 wpAny (model prog w) A (setAttr (.ref x) name v) Q E s := by
 obtain ⟨od, J, hl⟩ := I.look
 refine PySem.W.set_plain X J hs (PySem.W.osa_open (s := { s with toks := s.toks + 1 }) (r := none) X J hp ht fun b => ?_)
 obtain ⟨cd, hc, hd'⟩ := PySem.W.any_some hh
 have hx : s.heap.get? x = some ⟨.ref C, some dx, .plain, #[]⟩ := I.obj
 refine wpAny_bind (wpAny_pure (wpAny_bind (wpAny_bind (wpAny_loadPart hx (wpAny_bind (PySem.W.Looks.here (s := { s with toks := s.toks + 1 }) (PySem.W.looks_clsIn X hc) ?_))))))
 rw [hd']
 refine wpAny_pure (a := some dx) (wpAny_bind (wpAny_pure (wpAny_bind ?_)))
 refine wpAny_nsSet1 (s := { s with toks := s.toks + 1 }) I.ns fun h' hn2 hs2 => ?_
 obtain ⟨oD, esD, epD, hoD, hdD, hcD⟩ := hn2.count (PySem.Within.cons name v hw)
 refine wpAny_bind (wpAny_lookBehind hoD (by rw [hdD]; exact pastItsLine_dict (Nat.le_trans hcD (by rw [List.length_cons]; omega))) ?_)
 exact wpAny_pure (h _ ⟨(hs2.2 _ (Ne.symm I.ne)).trans I.obj, hn2, I.ne⟩ hs2)
theorem make_map {R : Result -> Shared -> Prop} {vs : List Value} {kw : List (Str × Value)} (X : K.In s.heap) (hm : PySem.W.makesIn K C = true)
 (hi : PySem.W.findIn K (.ref C) "__init__" = some (some (.ref f))) (hf : PySem.W.typeIn K (.ref f) = some (.type "function"))
 (h : codeAny (model prog w) (A.under (.builtin "type.__call__" ⟨.ref C :: vs, kw⟩)) (.call (.ref f) ⟨.ref (s.heap.objs.size + 1) :: vs, kw⟩) (PySem.W.InitBack (s.heap.objs.size + 1) R)
  { s with heap := (s.heap.push PySem.W.emptyDict).push (PySem.W.instObj C s.heap.objs.size) }) :
 codeAny (model prog w) A (.call (.ref C) ⟨vs, kw⟩) R s := by
 obtain ⟨hh, g, d, t, os⟩ := s
 exact PySem.W.make_core (PySem.W.makes_of X hm) (PySem.W.looks_findIn X hi) (fun self => PySem.W.bind_fn X self hf) (.inl rfl) h
end
def putF (f : Str) (v : V) : List (Str × V) -> List (Str × V)
 | [] => [(f, v)]
 | (g, x) :: r => if g = f then (g, v) :: r else (g, x) :: putF f v r
theorem lookup_putF (f g : Str) (v : V) : ∀ fs : List (Str × V), (putF f v fs).lookup g = if g = f then some v else fs.lookup g
 | [] => by
   show List.lookup g [(f, v)] = _
   by_cases h : g = f
   . have hb : (g == f) = true := beq_iff_eq.mpr h
     simp only [List.lookup, hb, if_pos h]
   . have hb : (g == f) = false := beq_eq_false_iff_ne.mpr h
     simp only [List.lookup, hb, if_neg h]
 | (k, x) :: r => by
   have ih := lookup_putF f g v r
   rw [show putF f v ((k, x) :: r) = (if k = f then (k, v) :: r else (k, x) :: putF f v r) from rfl]
   by_cases hk : k = f
   . rw [if_pos hk]
     by_cases h : g = k
     . have hb : (g == k) = true := beq_iff_eq.mpr h
       simp only [List.lookup, hb, if_pos (h.trans hk)]
     . have hb : (g == k) = false := beq_eq_false_iff_ne.mpr h
       simp only [List.lookup, hb, if_neg (fun e : g = f => h (e.trans hk.symm))]
   . rw [if_neg hk]
     by_cases h : g = k
     . have hb : (g == k) = true := beq_iff_eq.mpr h
       simp only [List.lookup, hb, if_neg (fun e : g = f => hk (h.symm.trans e))]
     . have hb : (g == k) = false := beq_eq_false_iff_ne.mpr h
       simp only [List.lookup, hb]
       exact ih
theorem keys_putF (f : Str) (v : V) : ∀ fs : List (Str × V), f ∈ (putF f v fs).map (·.1) /\ ∀ g, g ∈ fs.map (·.1) -> g ∈ (putF f v fs).map (·.1)
 | [] => ⟨by simp [putF], fun g h => by simp at h⟩
 | (k, x) :: r => by
   obtain ⟨i1, i2⟩ := keys_putF f v r
   rw [show putF f v ((k, x) :: r) = (if k = f then (k, v) :: r else (k, x) :: putF f v r) from rfl]
   by_cases hk : k = f
   . rw [if_pos hk]
     subst hk
     exact ⟨by simp, fun g h => by simpa using h⟩
   . rw [if_neg hk]
     refine ⟨?_, fun g h => ?_⟩
     . rw [List.map_cons]
       exact List.mem_cons_of_mem _ i1
     . rw [List.map_cons] at h ⊢
       rcases List.mem_cons.mp h with e | e
       . exact List.mem_cons.mpr (.inl e)
       . exact List.mem_cons_of_mem _ (i2 g e)
theorem length_putF (f : Str) (v : V) : ∀ fs : List (Str × V), (putF f v fs).length <= fs.length + 1
 | [] => by simp [putF]
 | (k, x) :: r => by
   have ih := length_putF f v r
   rw [show putF f v ((k, x) :: r) = (if k = f then (k, v) :: r else (k, x) :: putF f v r) from rfl]
   by_cases hk : k = f
   . rw [if_pos hk, List.length_cons, List.length_cons]; omega
   . rw [if_neg hk, List.length_cons, List.length_cons]; omega
theorem RelO.some_of {v : V} {o : Option Value} (r : RelO (some v) o) : ∃ u, o = some u /\ RelV v u := by
 cases o with
 | none => exact (show False from r).elim
 | some u => exact ⟨u, rfl, r⟩
theorem RelO.none_of {o : Option Value} (r : RelO none o) : o = none := by
 cases o with
 | none => rfl
 | some u => exact (show False from r).elim
theorem handed_of {v : V} {u : Value} (r : RelV v u) : PySem.W.handedIn u = true := by
 cases v with
 | non => cases (show u = Value.none from r); rfl
 | bl b => cases (show u = Value.bool b from r); rfl
 | int i => obtain ⟨t, e⟩ := (show ∃ t, u = Value.int i t from r); cases e; rfl
 | str x => obtain ⟨t, e⟩ := (show ∃ t, u = Value.str x t from r); cases e; rfl
 | byt b => obtain ⟨t, e⟩ := (show ∃ t, u = Value.bytes b t from r); cases e; rfl
 | flt b => obtain ⟨t, e⟩ := (show ∃ t, u = Value.float b t from r); cases e; rfl
 | ref a => cases (show u = Value.ref a from r); rfl
 | ty n => cases (show u = Value.type n from r); rfl
section
variable {P : Program} {w : World} {H H' : Hp} {h h' : Heap} {a C dx : Addr} {fs fs' : List (Str × V)}
theorem ins_get (hok : HOk P w H h) (e : H a = some (.ins C dx fs)) : ∃ mA, ObjM h a dx C mA /\ (∀ f, RelO (fs.lookup f) (mA f)) /\ PySem.Within mA (fs.map (·.1)) /\ fs.length <= 1000 /\ H dx = some (.own a) := by
 obtain ⟨d, z, ne, ob, mA, n, r, q⟩ := (show ObjOk P w H h a (.ins C dx fs) from hok a _ e)
 exact ⟨mA, ⟨ob, n, ne⟩, r, q, z, d⟩
end
structure Cls (K : PySem.W.Frag) (C : Addr) : Prop where
 pg : PySem.W.plainGet K C Str.empty = true
 hd : PySem.W.hasDictIn K C = true
 po : PySem.W.plainOver K C = true
 sa : PySem.W.findIn K (.ref C) "__setattr__" = some (some (.builtin "object.__setattr__"))
theorem Cls.get {K : PySem.W.Frag} {C : Addr} (c : Cls K C) (f : Str) : PySem.W.plainGet K C f = true := c.pg
def NoAttr (K : PySem.W.Frag) (C : Addr) (f : Str) : Prop := PySem.W.findIn K (.ref C) f = some none
theorem NoAttr.taker {K : PySem.W.Frag} {C : Addr} {f : Str} (n : NoAttr K C f) : PySem.W.takerIn K C f = some none := by
 unfold PySem.W.takerIn
 rw [show PySem.W.findIn K (.ref C) f = some none from n]
 rfl
structure Con (K : PySem.W.Frag) (C : Addr) (f : Str) (v : V) (u : Value) : Prop where
 at_ : PySem.W.findIn K (.ref C) f = some (some u)
 rel : RelV v u
 get : PySem.W.specialIn K u "__get__" = some none
 cp : PySem.W.copiedNames.contains f = false
structure Meth (K : PySem.W.Frag) (C : Addr) (m : Str) (f : Addr) : Prop where
 at_ : PySem.W.findIn K (.ref C) m = some (some (.ref f))
 fn : PySem.W.isFn K (.ref f) = true
 kp : PySem.W.keepIn K (.ref f) = true
section
variable {X : Cx} {pins : List (Addr × Obj)} {σ : St} {H : Hp} {s : Shared} {a C dx : Addr} {fs : List (Str × V)} {f : Str} {v : V} {A : Around} {E : Value -> Shared -> Prop}
theorem getattr_ok {b : Bool} {Q : Value -> Shared -> Prop} (I : Inv X pins σ H s) (e : H a = some (.ins C dx fs)) (c : Cls X.K C) (n : NoAttr X.K C f) (l : fs.lookup f = some v)
 (h : ∀ u s', Inv X pins σ H s' -> RelV v u -> Q u s') : wpAny (model X.prog X.w) A (getAttr (.ref a) f b) Q E s := by
 obtain ⟨mA, O, r, _, _, _⟩ := ins_get I.hok e
 obtain ⟨u, hu, ru⟩ := RelO.some_of (v := v) (o := mA f) (by rw [<- l]; exact r f)
 exact get_map I.kIn O (c.get f) c.hd n hu (handed_of ru) (h u _ (I.tok _) ru)
theorem getmeth_ok {m : Str} {g : Addr} {pl : Sem Bool} {Q : Value × List Value -> Shared -> Prop} (I : Inv X pins σ H s) (e : H a = some (.ins C dx fs)) (c : Cls X.K C) (k : Meth X.K C m g) (l : fs.lookup m = none)
 (h : Q (.ref g, [.ref a]) s) : wpAny (model X.prog X.w) A (getMethod (.ref a) m pl) Q E s := by
 obtain ⟨mA, O, r, _, _, _⟩ := ins_get I.hok e
 have hn : mA m = none := RelO.none_of (by rw [<- l]; exact r m)
 exact get_meth I.kIn O (c.get m) k.at_ k.fn hn h
theorem setattr_ok {y : V} {u : Value} {Q : Unit -> Shared -> Prop} (I : Inv X pins σ H s) (e : H a = some (.ins C dx fs)) (c : Cls X.K C) (n : NoAttr X.K C f) (hl : fs.length < 1000) (ry : RelV y u)
 (h : ∀ s', Inv X pins σ (upd H a (.ins C dx (putF f y fs))) s' -> Q () s') : wpAny (model X.prog X.w) A (setAttr (.ref a) f u) Q E s := by
 obtain ⟨mA, O, r, wi, _, ho⟩ := ins_get I.hok e
 have hz : (fs.map (·.1)).length <= sizeLine := by rw [List.length_map, sizeLine_eq]; omega
 refine set_map I.kIn O c.sa c.po n.taker c.hd wi hz fun h' O' sb => h _ ?_
 have hd : ∃ o, h'.get? dx = some o := let ⟨o, _, _, e', _⟩ := O'.ns; ⟨o, e'⟩
 refine I.write (x := a) (e := dx) (by rw [e]; exact True.intro) (.inr ho) (fun b q hb z => (sb.2 b hb).trans z) hd ?_
 refine ⟨by rw [upd_ne O.ne]; exact ho, ?_, O.ne, O'.obj, _, O'.ns, fun g => ?_, fun g hg => ?_⟩
 . have := length_putF f y fs; omega
 . show RelO ((putF f y fs).lookup g) (if g = f then some u else mA g)
   rw [lookup_putF]
   by_cases q : g = f
   . rw [if_pos q, if_pos q]; exact ry
   . rw [if_neg q, if_neg q]; exact r g
 . by_cases q : g = f
   . rw [q]; exact (keys_putF f y fs).1
   . refine (keys_putF f y fs).2 g (wi g fun z => hg ?_)
     show (if g = f then some u else mA g) = none
     rw [if_neg q]; exact z
theorem Inv.made (I : Inv X pins σ H s) : Inv X pins σ (upd (upd H s.heap.objs.size (.own (s.heap.objs.size + 1))) (s.heap.objs.size + 1) (.ins C s.heap.objs.size []))
 { s with heap := (s.heap.push PySem.W.emptyDict).push (PySem.W.instObj C s.heap.objs.size) } := by
 have e1 : (s.heap.push PySem.W.emptyDict).get? s.heap.objs.size = some PySem.W.emptyDict := Heap.get?_push_size s.heap rfl
 have e2 : ((s.heap.push PySem.W.emptyDict).push (PySem.W.instObj C s.heap.objs.size)).get? (s.heap.objs.size + 1) = some (PySem.W.instObj C s.heap.objs.size) := by
  have := Heap.get?_push_size (s.heap.push PySem.W.emptyDict) (o := PySem.W.instObj C s.heap.objs.size) rfl
  rwa [Heap.size_push] at this
 have e3 : (s.heap.push PySem.W.emptyDict).Ns s.heap.objs.size (fun _ => none) := ⟨PySem.W.emptyDict, #[], _, e1, rfl, (fun e he => absurd he (by simp)), fun _ => rfl⟩
 have I1 := I.laid (a := s.heap.objs.size) (o := .own (s.heap.objs.size + 1)) (h' := s.heap.push PySem.W.emptyDict) (t' := s.toks) (fun b u q => Heap.get?_push_of_some _ q) (Nat.le_refl _) ⟨_, e1⟩
 refine I1.laid (a := s.heap.objs.size + 1) (o := .ins C s.heap.objs.size []) (t' := s.toks) (fun b u q => Heap.get?_push_of_some _ q) (Nat.le_of_eq (Heap.size_push _ _)) ?_
 have ne : s.heap.objs.size ≠ s.heap.objs.size + 1 := Nat.ne_of_lt (Nat.lt_succ_self _)
 refine ⟨by rw [upd_ne ne, upd_same], Nat.zero_le _, ne, e2, fun _ => none, (Heap.Ns1.of_empty e3).at fun o q => Heap.get?_push_of_some _ q, fun _ => True.intro, fun y hy => absurd rfl hy⟩
theorem attr_of {prog : Program} {w : World} {env : Env} {e : Expr} {f : Str} {pos : Pos} {s : Shared} {Q : Value -> Shared -> Prop} (hb : attributeBase e f env (eval e env) = eval e env)
 (h : wpAny (model prog w) A (eval e env) (fun o s₁ => wpAny (model prog w) A (getAttr o f true) Q E s₁) E s) : wpAny (model prog w) A (eval (.Attribute e f pos) env) Q E s :=
 Attribute_any_ h (by rw [arm_eval_Attribute, hb])
end
def tFld (K : PySem.W.Frag) (ta : TE) (f : Str) : TE := fun σ H Q => ta σ H fun x H1 => ∃ a C dx fs v, x = .ref a /\ H1 a = some (.ins C dx fs) /\ Cls K C /\ NoAttr K C f /\ fs.lookup f = some v /\ Q v H1
def sFld (K : PySem.W.Frag) (ta tv : TE) (f : Str) : TS := fun D σ H => tv σ H fun y H1 => ta σ H1 fun x H2 => ∃ a C dx fs, x = .ref a /\ H2 a = some (.ins C dx fs) /\ Cls K C /\ NoAttr K C f /\ fs.length < 1000 /\
 D.nx σ (upd H2 a (.ins C dx (putF f y fs)))
section
variable {X : Cx} {o e value : Expr} {f : Str} {pos pos' tpos : Pos} {ta tv : TE}
theorem pe_fld (he : PE X e ta) (hb : attributeBase e f X.env (eval e X.env) = eval e X.env) : PE X (.Attribute e f pos) (tFld X.K ta f) := by
 intro pins s σ H Q I h
 refine attr_of hb (thn (he pins s σ H _ I h) fun u s1 ⟨x, H1, I1, rx, a, C, dx, fs, v, ex, ea, c, n, l, q⟩ => ?_)
 subst ex
 obtain rfl : u = Value.ref a := rx
 exact getattr_ok I1 ea c n l fun u' s2 I2 ru => ⟨v, H1, I2, ru, q⟩
theorem ps_fld (ha : PE X o ta) (hv : PE X value tv) (hs : swapsWith value (some (.Attribute o f pos')) pos.line X.env = pure false) : PS X (.Assign [.Attribute o f pos'] value pos) (sFld X.K ta tv f) := by
 intro pins s σ H D I h
 refine plainObj_wpAny_Assign_Attribute (thn (hv pins s σ H _ I h) fun u s1 ⟨y, H1, I1, ry, q⟩ => thn (ha pins s1 σ H1 _ I1 q) fun ov s2 ⟨x, H2, I2, rx, a, C, dx, fs, ex, ea, c, n, l, q2⟩ => ?_) hs
 subst ex
 obtain rfl : ov = Value.ref a := rx
 exact setattr_ok I2 ea c n l ry fun s3 I3 => ⟨σ, _, I3, q2⟩
end
section
variable {X : Cx} {pins : List (Addr × Obj)} {σ : St} {H : Hp} {s : Shared} {A : Around} {E : Value -> Shared -> Prop} {Q : Value -> Shared -> Prop} {c : Value} {b : Bool}
inductive TyOf (K : PySem.W.Frag) (H : Hp) : V -> Value -> Prop where
 | non : TyOf K H .non (.type "NoneType")
 | bl (x : Bool) : TyOf K H (.bl x) (.type "bool")
 | int (i : Int) : TyOf K H (.int i) (.type "int")
 | str (x : Str) : TyOf K H (.str x) (.type "str")
 | flt (x : UInt64) : TyOf K H (.flt x) (.type "float")
 | lst {a : Addr} {xs : List V} (e : H a = some (.lst xs)) : TyOf K H (.ref a) (.type "list")
 | frz {a : Addr} {o : Obj} {xs : List V} (e : H a = some (.frz o (.lst xs))) : TyOf K H (.ref a) (.type "list")
 | tup {a : Addr} {xs : List V} (e : H a = some (.tup xs)) : TyOf K H (.ref a) (.type "tuple")
 | dK {a : Addr} {kvs : List (Key × V)} (e : H a = some (.dK kvs)) : TyOf K H (.ref a) (.type "dict")
 | dT {a : Addr} {kvs : List (List Key × V)} (e : H a = some (.dT kvs)) : TyOf K H (.ref a) (.type "dict")
 | ins {a C dx : Addr} {fs : List (Str × V)} (e : H a = some (.ins C dx fs)) (cl : Cls K C) (ha : PySem.W.findIn K (.ref C) "__class__" = some (some (.builtin "object.__class__")))
  (hn : PySem.W.specialIn K (.builtin "object.__class__") "__get__" = some (some (.builtin "getset_descriptor.__get__"))) (htk : PySem.W.takesIn K (.builtin "object.__class__") = some true)
  (hm : PySem.W.mroIn K C (.type "object") = some true) : TyOf K H (.ref a) (.ref C)
theorem isinst_ok {x : V} {u t : Value} (I : Inv X pins σ H s) (rx : RelV x u) (ty : TyOf X.K H x t) (e : PySem.W.kitOne X.K t c = some b) (h : ∀ tk, Q (.bool b) { s with toks := tk }) :
 wpAny (model X.prog X.w) A (call (.builtin "isinstance") [u, c]) Q E s := by
 cases ty with
 | non => cases (show u = Value.none from rx); exact PySem.W.kia_one PySem.W.kitx_none I.kIn True.intro e (fun z => nomatch z) h
 | bl y => cases (show u = Value.bool y from rx); exact PySem.W.kia_one PySem.W.kitx_bool I.kIn True.intro e (fun z => nomatch z) h
 | int i => obtain ⟨t, q⟩ := (show ∃ t, u = Value.int i t from rx); cases q; exact PySem.W.kia_one PySem.W.kitx_int I.kIn True.intro e (fun z => nomatch z) h
 | str y => obtain ⟨t, q⟩ := (show ∃ t, u = Value.str y t from rx); cases q; exact PySem.W.kia_one PySem.W.kitx_str I.kIn True.intro e (fun z => nomatch z) h
 | flt y => obtain ⟨t, q⟩ := (show ∃ t, u = Value.float y t from rx); cases q; exact PySem.W.kia_one PySem.W.kitx_float I.kIn True.intro e (fun z => nomatch z) h
 | @lst a xs ea =>
   cases (show u = Value.ref a from rx)
   obtain ⟨_, _, n, _, h1⟩ := (show ObjOk X.prog X.w H s.heap a (.lst xs) from I.hok a _ ea)
   exact PySem.W.kia_one PySem.W.kitx_list I.kIn ⟨_, h1, rfl⟩ e (fun z => nomatch z) h
 | @frz a ob xs ea =>
   cases (show u = Value.ref a from rx)
   obtain ⟨_, _, _, n, _, h1⟩ := (show ObjOk X.prog X.w H s.heap a (.frz ob (.lst xs)) from I.hok a _ ea)
   exact PySem.W.kia_one PySem.W.kitx_list I.kIn ⟨_, h1, rfl⟩ e (fun z => nomatch z) h
 | @tup a xs ea =>
   cases (show u = Value.ref a from rx)
   obtain ⟨_, _, _, p⟩ := (show ObjOk X.prog X.w H s.heap a (.tup xs) from I.hok a _ ea)
   obtain ⟨o, h1, h2, _⟩ := p
   exact PySem.W.kia_one PySem.W.kitx_tuple I.kIn ⟨o, h1, h2⟩ e (fun z => nomatch z) h
 | @dK a kvs ea =>
   cases (show u = Value.ref a from rx)
   obtain ⟨_, _, vs, _, p⟩ := (show ObjOk X.prog X.w H s.heap a (.dK kvs) from I.hok a _ ea)
   obtain ⟨o, es, ep, h1, h2, _⟩ := p
   exact PySem.W.kia_one PySem.W.kitx_dict I.kIn ⟨o, h1, h2.1⟩ e (fun z => nomatch z) h
 | @dT a kvs ea =>
   cases (show u = Value.ref a from rx)
   obtain ⟨_, _, xs, _, o, es, ep, h1, h2, _⟩ := (show ObjOk X.prog X.w H s.heap a (.dT kvs) from I.hok a _ ea)
   exact PySem.W.kia_one PySem.W.kitx_dict I.kIn ⟨o, h1, h2.1⟩ e (fun z => nomatch z) h
 | @ins a C dx fs ea cl ha hn htk hm =>
   cases (show u = Value.ref a from rx)
   obtain ⟨mA, O, _⟩ := ins_get I.hok ea
   obtain ⟨od, J, _⟩ := O.look
   exact PySem.W.kia_one (PySem.W.kitx_own (cl.get _) cl.hd ha hn htk hm) I.kIn J e (fun z => nomatch z) h
end
structure Room (k : Nat) (A : Around) : Prop where
 hd : A.handled = none
 dp : A.depth + 3 * k + 5 < recursionLimit
 un : A.units + 16 * k + 200 < cLine
theorem Room.mono {j k : Nat} {A : Around} (r : Room k A) (h : j <= k) : Room j A := ⟨r.hd, by have := r.dp; omega, by have := r.un; omega⟩
theorem Room.deeper {k : Nat} {A : Around} (r : Room (k + 1) A) (env : Env) : Room k (A.deeper env) :=
 ⟨r.hd, by have := r.dp; show A.depth + 1 + 3 * k + 5 < _; omega, by have := r.un; show A.units + 3 + 16 * k + 200 < _; omega⟩
theorem make_depth {A : Around} {C : Addr} {us : List Value} {kw : List (Str × Value)} : (A.under (.builtin "type.__call__" ⟨.ref C :: us, kw⟩)).depth = A.depth + 1 := by
 first | rfl | simp [Around.under, Code.weight, Code.isCreation, Code.isGuard, Code.isCaller, Code.frames, Code.isFrame, guardIds]
theorem make_units {A : Around} {C : Addr} {us : List Value} {kw : List (Str × Value)} : (A.under (.builtin "type.__call__" ⟨.ref C :: us, kw⟩)).units = A.units + 1 := by
 first | rfl | simp [Around.under, Code.cUnits, Code.frames, Code.isFrame]
theorem Room.make {k : Nat} {A : Around} (r : Room (k + 1) A) (C : Addr) (us : List Value) (kw : List (Str × Value)) : Room k (A.under (.builtin "type.__call__" ⟨.ref C :: us, kw⟩)) :=
 ⟨r.hd, by have := r.dp; rw [make_depth]; omega, by have := r.un; rw [make_units]; omega⟩
theorem Room.depth {k : Nat} {A : Around} (r : Room k A) : A.depth < recursionLimit := by have := r.dp; omega
theorem Room.units {k : Nat} {A : Around} (r : Room k A) : A.units + 64 < cLine := by have := r.un; omega
def tNil : TA := fun _ H Q => Q [] H
def tCons (ta : TE) (tr : TA) : TA := fun σ H Q => ta σ H fun x H1 => tr σ H1 fun xs H2 => Q (x :: xs) H2
section
variable {X : Cx} {e : Expr} {es : List Expr} {te : TE} {t : TA} {pos : Pos}
theorem pa_nil : PA X [] tNil := fun _ _ _ _ H Q I h => Calls.spliced_nil ⟨[], H, I, .nil, h⟩
theorem pa_cons (ha : PE X e te) (hr : PA X es t) (hs : starEach (e :: es) X.env = (false, eval e X.env) :: starEach es X.env := by rfl) : PA X (e :: es) (tCons te t) := by
 intro pos pins s σ H Q I h
 rw [hs]
 show wpAny _ _ (spliced ((false, eval e X.env) :: backTo pos (starEach es X.env))) _ _ s
 refine Calls.spliced_cons (thn (ha pins s σ H _ I h) fun u s1 ⟨x, H1, I1, r1, q1⟩ => ?_)
 exact thn (hr pos pins s1 σ H1 _ I1 q1) fun us s2 ⟨xs, H2, I2, r2, q2⟩ => ⟨x :: xs, H2, I2, .cons r1 r2, q2⟩
def tTup (t : TA) : TE := fun σ H Q => t σ H fun xs H1 => xs.length <= sizeLine /\ ∀ p, H1 p = none -> Q (.ref p) (upd H1 p (.tup xs))
def tLst (t : TA) : TE := fun σ H Q => t σ H fun xs H1 => xs.length <= sizeLine /\ ∀ p, H1 p = none -> Q (.ref p) (upd H1 p (.lst xs))
theorem pe_tup {x1} (h : PA X es t) : PE X (.Tuple es x1 pos) (tTup t) := by
 intro pins s σ H Q I hq
 refine wpAny_Tuple_spliced (thn (h pos pins s σ H _ I hq) fun us s1 ⟨xs, H1, I1, r, z, q⟩ => ⟨by rw [<- r.length]; exact z, ?_⟩)
 have hf : H1 s1.heap.objs.size = none := I1.hok.fresh (Nat.le_refl _)
 refine ⟨.ref s1.heap.objs.size, upd H1 s1.heap.objs.size (.tup xs), I1.laid (t' := s1.toks) (fun b u e => Heap.get?_push_of_some _ e) (Nat.le_refl _) ?_, rfl, q _ hf⟩
 exact ⟨z, us, r, ⟨_, Heap.get?_push_size _ rfl, rfl, _, rfl⟩⟩
theorem pe_lst (h : PA X es t) : PE X (.List es pos) (tLst t) := by
 intro pins s σ H Q I hq
 refine wpAny_List_spliced (thn (h pos pins s σ H _ I hq) fun us s1 ⟨xs, H1, I1, r, z, q⟩ => ⟨by rw [<- r.length]; exact z, ?_⟩)
 have hf : H1 s1.heap.objs.size = none := I1.hok.fresh (Nat.le_refl _)
 refine ⟨.ref s1.heap.objs.size, upd H1 s1.heap.objs.size (.lst xs), I1.laid (t' := s1.toks) (fun b u e => Heap.get?_push_of_some _ e) (Nat.le_refl _) ?_, rfl, q _ hf⟩
 exact ⟨z, us, 0, r, Heap.get?_push_size _ rfl⟩
end
abbrev Sp := List V -> Hp -> VK -> XK -> Prop
abbrev CXT := List Env -> Hp -> Shared -> XK -> Value -> Shared -> Prop
structure Env0 (P : Program) (w : World) (K : PySem.W.Frag) (mg : Str -> Option Value) (base : Heap) (A : Around) (outer : List Env) (s : Shared) (H : Hp) : Prop where
 frames : A.frames = some outer
 mod : Mod K mg base
 bs : ∀ b o, base.get? b = some o -> s.heap.get? b = some o /\ H b = none
 bsz : base.objs.size <= s.heap.objs.size
 funs : s.heap.FunFrames base outer
 frf : ∀ b ∈ frs outer, H b = none
 hok : HOk P w H s.heap
 bare : AllBare s.gens
def CE (outer : List Env) (P : Program) (w : World) (H : Hp) (s : Shared) (Q : VK) (u : Value) (s' : Shared) : Prop :=
 ∃ v H', s'.os = s.os /\ AllBare s'.gens /\ Un (frs outer) [] H H' s.heap s'.heap /\ HOk P w H' s'.heap /\ RelV v u /\ Q v H'
def CR (CX : CXT) (outer : List Env) (P : Program) (w : World) (H : Hp) (s : Shared) (Q : VK) (E : XK) (r : Result) (s' : Shared) : Prop :=
 match r with
 | .ok (.ret u) => CE outer P w H s Q u s'
 | .ok _ => False
 | .error e => CX outer H s E e s'
structure FnOk (P : Program) (w : World) (K : PySem.W.Frag) (mg : Str -> Option Value) (base : Heap) (CX : CXT) (k : Nat) (f : Addr) (fd : FuncData) (ps : List Str) (sp : Sp) : Prop where
 len : ∀ vs H Q E, sp vs H Q E -> vs.length = ps.length
 run : ∀ (A : Around) (outer : List Env) (s : Shared) (H : Hp) (args : Args) (us : List Value) (vs : List V) (Q : VK) (E : XK), Room k A -> Env0 P w K mg base A outer s H -> BindsTo s fd args (ps.zip us) -> Vals vs us -> sp vs H Q E ->
  codeAny (model P w) A (.call (.ref f) args) (CR CX outer P w H s Q E) s
theorem FnOk.mono {P : Program} {w : World} {K : PySem.W.Frag} {mg : Str -> Option Value} {base : Heap} {CX : CXT} {j k : Nat} {f : Addr} {fd : FuncData} {ps : List Str} {sp : Sp} (F : FnOk P w K mg base CX j f fd ps sp) (h : j <= k) :
 FnOk P w K mg base CX k f fd ps sp := ⟨F.len, fun A outer s H args us vs Q E hr => F.run A outer s H args us vs Q E (hr.mono h)⟩
theorem Env0.make {P : Program} {w : World} {K : PySem.W.Frag} {mg : Str -> Option Value} {base : Heap} {A : Around} {outer : List Env} {s : Shared} {H : Hp} (e : Env0 P w K mg base A outer s H) (C : Addr) (us : List Value) (kw : List (Str × Value)) :
 Env0 P w K mg base (A.under (.builtin "type.__call__" ⟨.ref C :: us, kw⟩)) outer s H := ⟨by first | exact e.frames | (simpa [Around.under, Code.envs, Code.isFrame, pushEnvs] using e.frames), e.mod, e.bs, e.bsz, e.funs, e.frf, e.hok, e.bare⟩
section
variable {X : Cx} {pins : List (Addr × Obj)} {σ : St} {H : Hp} {s s' : Shared}
theorem Inv.env0 (I : Inv X pins σ H s) : Env0 X.prog X.w X.K X.mg X.base X.A X.stack s H :=
 ⟨I.ok.frames, I.ok.mod, I.bs, Nat.le_trans I.ok.bsz I.sz, I.stack, I.stkFree, I.hok, I.bare⟩
theorem Inv.after {Q : VK} {u : Value} (I : Inv X pins σ H s) (h : CE X.stack X.prog X.w H s Q u s') : EP X pins σ Q u s' := by
 obtain ⟨v, H', os, bare, un, hok, r, q⟩ := h
 obtain ⟨hh, g, d, t, os'⟩ := s'
 obtain rfl : os' = s.os := os
 exact ⟨v, H', I.call (h' := hh) (g' := g) (d' := d) (t' := t) (ch := []) un hok bare (fun b z => absurd z (by simp)), r, q⟩
end
def tCall (sp : Sp) (dvs : List V) (E : XK) (t : TA) : TE := fun σ H Q => t σ H fun vs H1 => sp (vs ++ dvs) H1 Q E
def tMeth (C : Addr) (m : Str) (sp : Sp) (dvs : List V) (E : XK) (ta : TE) (t : TA) : TE := fun σ H Q => ta σ H fun x H1 => ∃ a dx fs, x = .ref a /\ H1 a = some (.ins C dx fs) /\ fs.lookup m = none /\
 t σ H1 fun vs H2 => sp (x :: (vs ++ dvs)) H2 Q E
def tMake (C : Addr) (sp : Sp) (dvs : List V) (E : XK) (t : TA) : TE := fun σ H Q => t σ H fun vs H1 => ∀ x dx, H1 x = none -> H1 dx = none -> dx ≠ x ->
 sp (.ref x :: (vs ++ dvs)) (upd (upd H1 dx (.own x)) x (.ins C dx [])) (fun v H2 => v = .non /\ Q (.ref x) H2) E
def Binds (K : PySem.W.Frag) (fd : FuncData) (ps : List Str) (ds : List Value) : Prop :=
 ∀ (s : Shared) (us : List Value), K.In s.heap -> (us ++ ds).length = ps.length -> BindsTo s fd ⟨us, []⟩ (ps.zip (us ++ ds))
theorem Binds.all {K : PySem.W.Frag} {fd : FuncData} {ps : List Str} (h : ∀ us : List Value, us.length = ps.length -> bindArgs fd ⟨us, []⟩ = pure (ps.zip us)) : Binds K fd ps [] := fun s us _ hl => by
 rw [List.append_nil] at hl ⊢
 exact .of_eq (h us hl)
def Passes (CX : CXT) (X : Cx) (E : XK) : Prop := ∀ (pins : List (Addr × Obj)) (σ : St) (H : Hp) (s : Shared) (e : Value) (s' : Shared), Inv X pins σ H s -> CX X.stack H s E e s' -> X.xe e s'
section
variable {X : Cx} {CX : CXT} {k : Nat} {f C : Addr} {fd : FuncData} {ps : List Str} {sp : Sp} {dvs : List V} {ds : List Value} {E : XK} {x m : Str} {p pos apos : Pos} {e o : Expr} {es : List Expr} {ta : TE} {t : TA}
theorem run_fn {pins : List (Addr × Obj)} {σ : St} {H : Hp} {s : Shared} {Q : VK} {us : List Value} {vs : List V} (F : FnOk X.prog X.w X.K X.mg X.base CX k f fd ps sp) (hr : Room k X.A) (hb : Binds X.K fd ps ds) (hd : Vals dvs ds) (hx : Passes CX X E)
 (I : Inv X pins σ H s) (r : Vals vs us) (h : sp (vs ++ dvs) H Q E) : wpAny (model X.prog X.w) X.A (call (.ref f) us) (EP X pins σ Q) X.xe s := by
 have r2 : Vals (vs ++ dvs) (us ++ ds) := r.append hd
 have hl : (us ++ ds).length = ps.length := by rw [<- r2.length]; exact F.len _ _ _ _ h
 refine wpAny_call (codeAny_mono (F.run X.A X.stack s H ⟨us, []⟩ (us ++ ds) (vs ++ dvs) Q E hr I.env0 (hb s us I.kIn hl) r2 h) fun r s' hq => ?_)
 cases r with
 | error e => exact hx pins σ H s e s' I hq
 | ok fl =>
   cases fl with
   | ret u => exact I.after hq
   | next => exact False.elim hq
   | brk => exact False.elim hq
   | cont => exact False.elim hq
theorem pe_call (F : FnOk X.prog X.w X.K X.mg X.base CX k f fd ps sp) (hr : Room k X.A) (hg : Gl X x) (hm : X.mg x = some (.ref f)) (hk : PySem.W.keepIn X.K (.ref f) = true) (hb : Binds X.K fd ps ds) (hd : Vals dvs ds) (hx : Passes CX X E)
 (ha : PA X (e :: es) t) (hdb : (x == ("__debug__" : Str)) = false := by decide) (he : starEach (e :: es) X.env = (false, eval e X.env) :: starEach es X.env := by rfl) (hpl : (backTo pos (starEach es X.env)).any (·.1) = false := by rfl) :
 PE X (.Call (.Name x p) (e :: es) [] pos) (tCall sp dvs E t) := by
 intro pins s σ H Q I h
 refine wpAny_Call_Name_kw (ld_glob I hg hm ?_ hdb)
 refine PySem.W.callWith_K (h₀ := X.base) I.ok.mod.kin hk (thn (ha pos pins s σ H _ I h) fun us s1 ⟨vs, H1, I1, r, q⟩ => ⟨I1.kIn, ?_⟩) he hpl
 exact run_fn F hr hb hd hx I1 r q
theorem pe_meth {pl : Sem Bool} (he : PE X o ta) (c : Cls X.K C) (hm : Meth X.K C m f) (F : FnOk X.prog X.w X.K X.mg X.base CX k f fd ps sp) (hr : Room k X.A) (hb : Binds X.K fd ps ds) (hd : Vals dvs ds) (hx : Passes CX X E) (ha : PA X (e :: es) t)
 (hst : starEach (e :: es) X.env = (false, eval e X.env) :: starEach es X.env := by rfl) (hpl : (backTo pos (starEach es X.env)).any (·.1) = false := by rfl)
 (ht : eval (.Call (.Attribute o m apos) (e :: es) [] pos) X.env = (do
  let ov <- eval o X.env
  standAt apos.atName
  let (f, first) <- holding [ov] (getMethod ov m pl)
  callWith pos f first (backTo pos (starEach (e :: es) X.env)) (backToKw pos (keywordEach [] X.env))) := by rfl) :
 PE X (.Call (.Attribute o m apos) (e :: es) [] pos) (tMeth C m sp dvs E ta t) := by
 intro pins s σ H Q I h
 refine PySem.W.methodCall_KW (pl := pl) (thn (he pins s σ H _ I h) fun u s1 ⟨x, H1, I1, rx, a, dx, fs, ex, ea, l, q⟩ => ?_) ht
 subst ex
 obtain rfl : u = Value.ref a := rx
 refine getmeth_ok I1 ea c hm l ?_
 refine PySem.W.callWith_K (first := [.ref a]) (h₀ := X.base) I.ok.mod.kin hm.kp (thn (ha pos pins s1 σ H1 _ I1 q) fun us s2 ⟨vs, H2, I2, r, q2⟩ => ⟨I2.kIn, ?_⟩) hst hpl
 exact run_fn (us := .ref a :: us) (vs := .ref a :: vs) F hr hb hd hx I2 (.cons rfl r) q2
theorem pe_meth0 {pl : Sem Bool} (he : PE X o ta) (c : Cls X.K C) (hm : Meth X.K C m f) (F : FnOk X.prog X.w X.K X.mg X.base CX k f fd ps sp) (hr : Room k X.A) (hb : Binds X.K fd ps ds) (hd : Vals dvs ds) (hx : Passes CX X E)
 (ht : eval (.Call (.Attribute o m apos) [] [] pos) X.env = (do
  let ov <- eval o X.env
  standAt apos.atName
  let (f, first) <- holding [ov] (getMethod ov m pl)
  callWith pos f first (backTo pos (starEach [] X.env)) (backToKw pos (keywordEach [] X.env))) := by rfl) :
 PE X (.Call (.Attribute o m apos) [] [] pos) (tMeth C m sp dvs E ta tNil) := by
 intro pins s σ H Q I h
 refine PySem.W.methodCall_KW (pl := pl) (thn (he pins s σ H _ I h) fun u s1 ⟨x, H1, I1, rx, a, dx, fs, ex, ea, l, q⟩ => ?_) ht
 subst ex
 obtain rfl : u = Value.ref a := rx
 refine getmeth_ok I1 ea c hm l ?_
 exact PySem.W.callWith_K0 (first := [.ref a]) I1.kIn hm.kp (run_fn (us := [.ref a]) (vs := [.ref a]) F hr hb hd hx I1 (.cons rfl .nil) q)
structure Mk (K : PySem.W.Frag) (C f : Addr) : Prop where
 makes : PySem.W.makesIn K C = true
 init : PySem.W.findIn K (.ref C) "__init__" = some (some (.ref f))
 fn : PySem.W.isFn K (.ref f) = true
 kp : PySem.W.keepIn K (.ref C) = true
theorem run_make {pins : List (Addr × Obj)} {σ : St} {H : Hp} {s : Shared} {Q : VK} {us : List Value} {vs : List V} (M : Mk X.K C f) (F : FnOk X.prog X.w X.K X.mg X.base CX k f fd ps sp) (hr : Room (k + 1) X.A) (hb : Binds X.K fd ps ds) (hd : Vals dvs ds)
 (hx : Passes CX X E) (I : Inv X pins σ H s) (r : Vals vs us)
 (h : ∀ x dx, H x = none -> H dx = none -> dx ≠ x -> sp (.ref x :: (vs ++ dvs)) (upd (upd H dx (.own x)) x (.ins C dx [])) (fun v H2 => v = .non /\ Q (.ref x) H2) E) :
 wpAny (model X.prog X.w) X.A (call (.ref C) us) (EP X pins σ Q) X.xe s := by
 have hq := h (s.heap.objs.size + 1) s.heap.objs.size (I.hok.fresh (Nat.le_succ _)) (I.hok.fresh (Nat.le_refl _)) (Nat.ne_of_lt (Nat.lt_succ_self _))
 have I2 := Inv.made (C := C) I
 have r2 : Vals (V.ref (s.heap.objs.size + 1) :: (vs ++ dvs)) (Value.ref (s.heap.objs.size + 1) :: (us ++ ds)) := .cons rfl (r.append hd)
 have hl : (Value.ref (s.heap.objs.size + 1) :: us ++ ds).length = ps.length := by
  have e := r2.length
  rw [F.len _ _ _ _ hq] at e
  exact e.symm
 refine wpAny_call (make_map (f := f) I.kIn M.makes M.init (beq_iff_eq.mp M.fn) (codeAny_mono (F.run _ X.stack _ _ ⟨Value.ref (s.heap.objs.size + 1) :: us, []⟩ (Value.ref (s.heap.objs.size + 1) :: (us ++ ds)) _ _ E (hr.make C us [])
  (I2.env0.make C us []) (hb _ (Value.ref (s.heap.objs.size + 1) :: us) I2.kIn hl) r2 hq) fun r s' hq' => ?_))
 cases r with
 | error e => exact hx pins σ _ _ e s' I2 hq'
 | ok fl =>
   cases fl with
   | ret u =>
     obtain ⟨v, H', I3, rv, ev, q3⟩ := I2.after hq'
     subst ev
     exact ⟨rv, ⟨V.ref (s.heap.objs.size + 1), H', I3, rfl, q3⟩⟩
   | next => exact False.elim hq'
   | brk => exact False.elim hq'
   | cont => exact False.elim hq'
theorem pe_make (M : Mk X.K C f) (F : FnOk X.prog X.w X.K X.mg X.base CX k f fd ps sp) (hr : Room (k + 1) X.A) (hg : Gl X x) (hm : X.mg x = some (.ref C)) (hb : Binds X.K fd ps ds) (hd : Vals dvs ds) (hx : Passes CX X E)
 (ha : PA X (e :: es) t) (hdb : (x == ("__debug__" : Str)) = false := by decide) (he : starEach (e :: es) X.env = (false, eval e X.env) :: starEach es X.env := by rfl) (hpl : (backTo pos (starEach es X.env)).any (·.1) = false := by rfl) :
 PE X (.Call (.Name x p) (e :: es) [] pos) (tMake C sp dvs E t) := by
 intro pins s σ H Q I h
 refine wpAny_Call_Name_kw (ld_glob I hg hm ?_ hdb)
 refine PySem.W.callWith_K (h₀ := X.base) I.ok.mod.kin M.kp (thn (ha pos pins s σ H _ I h) fun us s1 ⟨vs, H1, I1, r, q⟩ => ⟨I1.kIn, ?_⟩) he hpl
 exact run_make M F hr hb hd hx I1 r q
end
section
variable {X : Cx} {CX : CXT} {k : Nat} {f C : Addr} {fd : FuncData} {ps ks : List Str} {sp : Sp} {E : XK} {x m : Str} {p pos apos kpos : Pos} {e o : Expr} {es : List Expr} {kws : List Keyword} {te ta : TE} {t tk : TA} {nm : Option Str}
structure KBinds (K : PySem.W.Frag) (fd : FuncData) (ps ks : List Str) (g : List Value -> List Value -> List Value) (gV : List V -> List V -> List V) : Prop where
 to : ∀ (s : Shared) (us ws : List Value), K.In s.heap -> (g us ws).length = ps.length -> BindsTo s fd ⟨us, ks.zip ws⟩ (ps.zip (g us ws))
 rel : ∀ {vs : List V} {us : List Value} {zs : List V} {ws : List Value}, Vals vs us -> Vals zs ws -> Vals (gV vs zs) (g us ws)
variable {g : List Value -> List Value -> List Value} {gV : List V -> List V -> List V}
end
structure FnScope (N P : List Str) (sc : Scope) : Prop where
 kind : sc.kind = .function
 co : sc.isCoroutine = false
 gen : sc.isGenerator = false
 nd : N.Nodup
 pre : N.take P.length = P
 par : ∀ x ∈ P, sc.names.lookup x = some .local \/ sc.names.lookup x = some .cell
 nofree : ∀ y ∈ sc.names, y.2 ≠ .free
theorem bindL_out {kindOf : Str -> Option NameKind} {x : Str} : ∀ {binds : List (Str × Value)} {m : Str -> Option Value}, (∀ v, (x, v) ∉ binds) -> bindL kindOf binds m x = m x
 | [], _, _ => rfl
 | (n, v) :: r, m, h => by
   unfold bindL
   rw [bindL_out fun w hw => h w (List.mem_cons_of_mem _ hw)]
   split
   . have : x ≠ n := by rintro rfl; exact h v List.mem_cons_self
     simp [this]
   . rfl
theorem bindC_out {kindOf : Str -> Option NameKind} {x : Str} : ∀ {binds : List (Str × Value)} {m : Str -> Option Value}, (∀ v, (x, v) ∉ binds) -> bindC kindOf binds m x = m x
 | [], _, _ => rfl
 | (n, v) :: r, m, h => by
   unfold bindC
   rw [bindC_out fun w hw => h w (List.mem_cons_of_mem _ hw)]
   split
   . rfl
   . have : x ≠ n := by rintro rfl; exact h v List.mem_cons_self
     simp [this]
theorem bindL_get {kindOf : Str -> Option NameKind} {x : Str} {v : Value} : ∀ {P : List Str} {vs : List Value} {i : Nat} {m : Str -> Option Value}, P.Nodup -> P[i]? = some x -> vs[i]? = some v -> kindOf x = some .local ->
 bindL kindOf (P.zip vs) m x = some v
 | [], _, _, _, _, h, _, _ => by simp at h
 | _ :: _, [], _, _, _, _, h, _ => by simp at h
 | p :: P, w :: vs, 0, m, nd, h1, h2, hk => by
   simp at h1 h2; subst h1; subst h2
   show bindL kindOf ((p, w) :: P.zip vs) m p = _
   unfold bindL
   rw [bindL_out fun v hv => (List.nodup_cons.mp nd).1 (List.of_mem_zip hv).1, if_pos hk]
   simp
 | p :: P, w :: vs, i + 1, m, nd, h1, h2, hk => by
   show bindL kindOf ((p, w) :: P.zip vs) m x = _
   unfold bindL
   exact bindL_get (i := i) (List.nodup_cons.mp nd).2 (by simpa using h1) (by simpa using h2) hk
theorem bindC_get {kindOf : Str -> Option NameKind} {x : Str} {v : Value} : ∀ {P : List Str} {vs : List Value} {i : Nat} {m : Str -> Option Value}, P.Nodup -> P[i]? = some x -> vs[i]? = some v -> kindOf x ≠ some .local ->
 bindC kindOf (P.zip vs) m x = some v
 | [], _, _, _, _, h, _, _ => by simp at h
 | _ :: _, [], _, _, _, _, h, _ => by simp at h
 | p :: P, w :: vs, 0, m, nd, h1, h2, hk => by
   simp at h1 h2; subst h1; subst h2
   show bindC kindOf ((p, w) :: P.zip vs) m p = _
   unfold bindC
   rw [bindC_out fun v hv => (List.nodup_cons.mp nd).1 (List.of_mem_zip hv).1, if_neg hk]
   simp
 | p :: P, w :: vs, i + 1, m, nd, h1, h2, hk => by
   show bindC kindOf ((p, w) :: P.zip vs) m x = _
   unfold bindC
   exact bindC_get (i := i) (List.nodup_cons.mp nd).2 (by simpa using h1) (by simpa using h2) hk
def start (N : List Str) (vs : List V) : St := vs.map some ++ List.replicate (N.length - vs.length) none
def cxOf (CX : CXT) (P : Program) (w : World) (K : PySem.W.Frag) (mg : Str -> Option Value) (base : Heap) (N : List Str) (qual : Str) (scope : Scope) (f : Addr) (cd : Value) (A : Around) (outer : List Env) (s : Shared) (H : Hp) (E : XK) : Cx where
 prog := P
 w := w
 K := K
 mg := mg
 base := base
 A := A.deeper (envOfC qual scope s.heap.objs.size f cd)
 N := N
 s₀ := s
 H₀ := H
 env := envOfC qual scope s.heap.objs.size f cd
 outer := outer
 stack := envOfC qual scope s.heap.objs.size f cd :: outer
 ex := []
 calm := true
 fn := fun _ => true
 pn := []
 xe := fun e s' => wpAny (model P w) (A.deeper (envOfC qual scope s.heap.objs.size f cd)) (leaving (envOfC qual scope s.heap.objs.size f cd) e) (fun _ s'' => CX outer H s E e s'') (fun e' s'' => CX outer H s E e' s'') s'
theorem cell_has {sc : Scope} {n : Nat} {x : Str} (h : sc.names.lookup x = some .cell) : ∃ c, (cellsFrom n sc.names []).lookup x = some c := by
 have q := PySem.W.cellsFrom_some sc.names n [] (.inl h)
 exact Option.isSome_iff_exists.mp q
theorem inv_start {CX : CXT} {P : Program} {w : World} {K : PySem.W.Frag} {mg : Str -> Option Value} {base : Heap} {N ps : List Str} {qual : Str} {scope : Scope} {f : Addr} {cd : Value} {A : Around} {outer : List Env} {s s1 : Shared} {H : Hp} {E : XK} {us : List Value} {vs : List V}
 (S : FnScope N ps scope) (hd : A.handled = none) (e0 : Env0 P w K mg base A outer s H) (hl : vs.length = ps.length) (r : Vals vs us)
 (x : InCallC s s.heap.objs.size (bindL (envOfC qual scope s.heap.objs.size f cd).kindOf (ps.zip us) fun _ => none) (cellsFrom (s.heap.objs.size + 1) scope.names []) (bindC (envOfC qual scope s.heap.objs.size f cd).kindOf (ps.zip us) fun _ => none) s1) :
 Inv (cxOf CX P w K mg base N qual scope f cd A outer s H E) [] (start N vs) H s1 := by
 have hpl : ps.length <= N.length := by have := congrArg List.length S.pre; rw [List.length_take] at this; omega
 obtain ⟨h1, tk, rfl, hk⟩ := x.done
 have noA : ∀ b : Addr, b ∉ (cxOf CX P w K mg base N qual scope f cd A outer s H E).ex := fun b z => absurd (show b ∈ ([] : List Addr) from z) (by simp)
 refine ⟨⟨e0.mod, S.kind, rfl, rfl, Nat.le_refl _, fun y z c h1 h2 => ?_, fun y hy => ?_, fun y c _ h => ?_, fun _ => hd, Around.frames_deeper e0.frames, .inr ⟨rfl, rfl⟩, fun b z => absurd z (noA b), e0.bs, e0.bsz, fun b _ _ => noA b, fun b z => absurd z (noA b), e0.funs, e0.frf⟩,
  rfl, e0.bare, Un.kept hk, ⟨_, x.toInCall.ns, fun i y v h1 h2 h3 => ?_⟩, fun y c h => ⟨_, x.cell y c h⟩, e0.hok.fresh (Nat.le_refl _), fun y c h => ?_, fun p hp => absurd (show p ∈ ([] : List (Addr × Obj)) from hp) (by simp), e0.hok.kept hk, ?_⟩
 . exact name_of_addr x.apart (PySem.mem_of_lookup h1) (PySem.mem_of_lookup h2)
 . have hy : scope.names.lookup y = some .cell \/ scope.names.lookup y = some .free := hy
   rcases hy with hy | hy
   . exact cell_has hy
   . exact absurd rfl (S.nofree _ (PySem.mem_of_lookup hy))
 . exact Nat.le_of_lt (x.above y c (PySem.mem_of_lookup h))
 . have hi : i < vs.length := by
    unfold start at h2
    by_cases hi : i < vs.length
    . exact hi
    . rw [List.getElem?_append_right (by simpa using hi)] at h2
      rw [List.getElem?_replicate] at h2
      split at h2 <;> cases h2
   have ha : vs[i]? = some v := by
    unfold start at h2
    rw [List.getElem?_append_left (by simpa using hi), List.getElem?_map] at h2
    cases e : vs[i]? with
    | none => rw [e] at h2; cases h2
    | some a => rw [e] at h2; cases h2; rfl
   obtain ⟨u, hu, rv⟩ := r.get ha
   have hp : ps[i]? = some y := by
    rw [<- S.pre, List.getElem?_take_of_lt (by omega)]; exact h1
   have ndP : ps.Nodup := by rw [<- S.pre]; exact S.nd.sublist (List.take_sublist _ _)
   refine ⟨u, rv, ?_⟩
   rcases S.par y (List.mem_of_getElem? hp) with k | k
   . exact .inl ⟨k, bindL_get ndP hp hu k⟩
   . obtain ⟨c, e⟩ := cell_has (n := s.heap.objs.size + 1) k
     refine .inr ⟨.inl k, c, e, ?_⟩
     have q := x.cell y c e
     rw [bindC_get ndP hp hu (by show scope.names.lookup y ≠ _; rw [k]; decide)] at q
     exact q
 . exact e0.hok.fresh (Nat.le_of_lt (x.above y c (PySem.mem_of_lookup h)))
 . unfold start
   show _ = N.length
   rw [List.length_append, List.length_map, List.length_replicate]
   omega
theorem fn_of {CX : CXT} {P : Program} {w : World} {K : PySem.W.Frag} {mg : Str -> Option Value} {base : Heap} {k : Nat} {f : Addr} {name qual : Str} {params : Arguments} {body : List Stmt} {scope : Scope} {dV kV doc pm cdv ct oc : Value} {an od : Option Addr}
 {osl : Array (Option Value)} {N ps : List Str} {sp : Sp} (lk : K.lookup f = some ⟨oc, od, .func (PySem.W.fnOf name qual params body scope dV kV doc pm an cdv ct), osl⟩) (hcd : PySem.W.codeIn K cdv qual = true) (S : FnScope N ps scope)
 (len : ∀ vs H Q E, sp vs H Q E -> vs.length = ps.length)
 (hbody : ∀ (A : Around) (outer : List Env) (s : Shared) (H : Hp) (vs : List V) (Q : VK) (E : XK), Room k (A.deeper (envOfC qual scope s.heap.objs.size f cdv)) -> sp vs H Q E ->
  ∃ t, PSs (cxOf CX P w K mg base N qual scope f cdv A outer s H E) body t /\ t { nx := fun _ H' => Q .non H', rt := Q } (start N vs) H) :
 FnOk P w K mg base CX (k + 1) f (PySem.W.fnOf name qual params body scope dV kV doc pm an cdv ct) ps sp := by
 refine ⟨len, fun A outer s H args us vs Q E hr e0 hb r hsp => ?_⟩
 have hl := len _ _ _ _ hsp
 have KX : K.In s.heap := e0.mod.kin.keeps fun b o e => (e0.bs b o e).1
 have lim : s.heap.NoLimit := e0.mod.nolimit.keeps fun b o e => (e0.bs b o e).1
 have hkind : ∀ y ∈ ps.zip us, scope.names.lookup y.1 = some .local \/ (scope.names.lookup y.1 = some .cell /\ ((cellsFrom (s.heap.objs.size + 1) scope.names []).lookup y.1).isSome = true) := fun ⟨n, v⟩ hy => by
  rcases S.par n (List.of_mem_zip hy).1 with q | q
  . exact .inl q
  . exact .inr ⟨q, PySem.W.cellsFrom_some _ _ _ (.inl q)⟩
 refine codeAny_call_function hr.depth (KX _ _ lk) rfl S.co S.gen rfl (PySem.W.codeRec_of KX hcd) (hb _ _ _ _ ?_)
 refine wpAny_newFunctionEnv_cells S.kind hkind fun env he s1 x => ?_
 subst he
 refine ⟨lim.keeps x.toInCall.keep, codeAny_func ?_⟩
 obtain ⟨t, ht, hq⟩ := hbody A outer s H vs Q E (hr.deeper _) hsp
 have I : Inv (cxOf CX P w K mg base N qual scope f cdv A outer s H E) [] (start N vs) H s1 := inv_start S hr.hd e0 hl r x
 refine wpAny_mono (ht [] s1 (start N vs) H _ I hq) (fun fl s' hs => ?_) fun e s' hs => hs
 have fin : ∀ {σ' : St} {H' : Hp} {v : V} {u : Value}, Inv (cxOf CX P w K mg base N qual scope f cdv A outer s H E) [] σ' H' s' -> RelV v u -> Q v H' -> CE outer P w H s Q u s' :=
  fun {σ' H' v u} J rv q => ⟨v, H', J.os, J.bare, J.base, J.hok, rv, q⟩
 cases fl with
 | ret u =>
   obtain ⟨v, σ', H', J, rv, q⟩ := hs
   exact fin J rv q
 | next =>
   obtain ⟨σ', H', J, q⟩ := hs
   exact fin (v := V.non) (u := Value.none) J rfl q
 | brk =>
   obtain ⟨_, _, _, q⟩ := hs
   exact False.elim q
 | cont =>
   obtain ⟨_, _, _, q⟩ := hs
   exact False.elim q
section
variable {X : Cx} {x : Str} {p pos : Pos} {e : Expr} {es : List Expr} {t : TA} {id T : String} {r : List V -> Hp -> VK -> Prop}
def tCB (r : List V -> Hp -> VK -> Prop) (t : TA) : TE := fun σ H Q => t σ H fun vs H1 => r vs H1 Q
theorem pe_callB (hc : CallR X (.builtin id) r) (hg : Gl X x) (hm : X.mg x = none) (hv : bootBuiltins x = some (.builtin id)) (ha : PA X (e :: es) t) (hn : x ≠ "__name__" := by decide) (hdb : (x == ("__debug__" : Str)) = false := by decide)
 (he : starEach (e :: es) X.env = (false, eval e X.env) :: starEach es X.env := by rfl) (hpl : (backTo pos (starEach es X.env)).any (·.1) = false := by rfl) : PE X (.Call (.Name x p) (e :: es) [] pos) (tCB r t) := by
 intro pins s σ H Q I h
 refine wpAny_Call_Name_kw (ld_blt I hg hm hv ?_ hn hdb)
 exact PyProof.Rows.callWith_builtin1 (thn (ha pos pins s σ H _ I h) fun us s1 ⟨vs, H1, I1, r1, q1⟩ => hc pins s1 σ H1 vs us Q I1 r1 q1) he hpl
theorem pe_callTy (hc : CallR X (.type T) r) (hg : Gl X x) (hm : X.mg x = none) (hv : bootBuiltins x = some (.type T)) (ha : PA X (e :: es) t) (hn : x ≠ "__name__" := by decide) (hdb : (x == ("__debug__" : Str)) = false := by decide)
 (he : starEach (e :: es) X.env = (false, eval e X.env) :: starEach es X.env := by rfl) (hpl : (backTo pos (starEach es X.env)).any (·.1) = false := by rfl) : PE X (.Call (.Name x p) (e :: es) [] pos) (tCB r t) := by
 intro pins s σ H Q I h
 refine wpAny_Call_Name_kw (ld_blt I hg hm hv ?_ hn hdb)
 exact PyProof.Rows.callWith_type1 (thn (ha pos pins s σ H _ I h) fun us s1 ⟨vs, H1, I1, r1, q1⟩ => hc pins s1 σ H1 vs us Q I1 r1 q1) he hpl
end
end L2
namespace HT
open PySem PyProof.Rows
section
open PySem.SeqAt
open PySem.AutoSeq1 (wpAny_loadPart')
open PySem.MeetsSeq PySem.MeetsSeq2 PySem.MeetsSeq3
end
section
variable {prog : Program} {w : World} {A : Around} {E : Value -> Shared -> Prop} {s : Shared}
def sIx (n d : Nat) : Option Int -> Nat
 | none => d
 | some v => if v < 0 then (v + (n : Int)).toNat else min v.toNat n
theorem sIx_nat (n d k : Nat) : sIx n d (some (k : Int)) = min k n := by
 show (if (k : Int) < 0 then ((k : Int) + (n : Int)).toNat else min (k : Int).toNat n) = min k n
 rw [if_neg (by omega), Int.toNat_natCast]
end
end HT
namespace L2
open PySem PySem.Spec PyProof.Rows
abbrev TO := St -> Hp -> (Option Int -> Hp -> Prop) -> Prop
def PO (X : Cx) (e : Option Expr) (t : TO) : Prop :=
 ∀ (pins : List (Addr × Obj)) (s : Shared) (σ : St) (H : Hp) (Q : Option Int -> Hp -> Prop), Inv X pins σ H s -> t σ H Q ->
   wpAny (model X.prog X.w) X.A (evalPart e X.env) (fun u s' => ∃ o H', Inv X pins σ H' s' /\ IsPart u o /\ Q o H') X.xe s
def tNoPart : TO := fun _ H Q => Q none H
def tPart (t : TE) : TO := fun σ H Q => t σ H fun x H1 => ∃ i, x = .int i /\ Q (some i) H1
section
variable {X : Cx} {e : Expr} {te : TE} {lo hi : Option Expr} {tl th : TO} {pos p2 : Pos}
theorem po_none : PO X none tNoPart := by
 intro pins s σ H Q I h
 rw [evalPart_none]
 exact wpAny_pure ⟨none, H, I, .none, h⟩
theorem po_some (h : PE X e te) : PO X (some e) (tPart te) := by
 intro pins s σ H Q I hw
 rw [evalPart_some]
 refine thn (h pins s σ H _ I hw) fun u s1 ⟨x, H1, I1, r1, q1⟩ => ?_
 obtain ⟨i, rfl, q⟩ := q1
 obtain ⟨t, rfl⟩ := r1
 exact ⟨some i, H1, I1, .int i t, q⟩
def SlR (X : Cx) (r : V -> Option Int -> Option Int -> Hp -> VK -> Prop) : Prop :=
 ∀ (pins : List (Addr × Obj)) (s : Shared) (σ : St) (H : Hp) (x : V) (v vl vu : Value) (lo hi : Option Int) (sl : Addr) (Q : VK), Inv X pins σ H s -> RelV x v -> s.heap.IsSliceOf sl vl vu .none -> IsPart vl lo -> IsPart vu hi -> r x lo hi H Q ->
   ∃ T id, typeLookup (.type T) "__getitem__" = pure (some (.builtin id)) /\ s.TypeIs v T /\ wpAny (model X.prog X.w) X.A (getItem v (.ref sl)) (EP X pins σ Q) X.xe s
def tSl (r : V -> Option Int -> Option Int -> Hp -> VK -> Prop) (te : TE) (tl th : TO) : TE := fun σ H Q => te σ H fun x H1 => tl σ H1 fun l H2 => th σ H2 fun u H3 => r x l u H3 Q
theorem pe_slice {r : V -> Option Int -> Option Int -> Hp -> VK -> Prop} (hr : SlR X r) (he : PE X e te) (hl : PO X lo tl) (hu : PO X hi th) : PE X (.Subscript e (.Slice lo hi none p2) pos) (tSl r te tl th) := by
 intro pins s σ H Q I h
 refine Subscript_ (thn (he pins s σ H _ I h) fun v s1 ⟨x, H1, I1, r1, q1⟩ => ?_)
 refine wpAny_Slice (thn (hl pins s1 σ H1 _ I1 q1) fun vl s2 ⟨l, H2, I2, pl, q2⟩ => thn (hu pins s2 σ H2 _ I2 q2) fun vu s3 ⟨u, H3, I3, pu, q3⟩ => ?_)
 rw [evalPart_none]
 refine wpAny_pure ?_
 have I4 : Inv X pins σ H3 { s3 with heap := s3.heap.push { cls := .type "slice", data := .fields #[vl, vu, .none] } } := I3.kept (t' := s3.toks) fun b ob q => Heap.get?_push_of_some _ q
 obtain ⟨T, id, hT, ht, hg⟩ := hr pins { s3 with heap := s3.heap.push { cls := .type "slice", data := .fields #[vl, vu, .none] } } σ H3 x v vl vu l u s3.heap.objs.size Q I4 r1 (Heap.IsSliceOf.new ..) pl pu q3
 show wpAny (model X.prog X.w) X.A (subscriptTail e (.Slice lo hi none p2) v (.ref s3.heap.objs.size)) (EP X pins σ Q) X.xe { s3 with heap := s3.heap.push { cls := .type "slice", data := .fields #[vl, vu, .none] } }
 exact tail_any (ops := [.ref s3.heap.objs.size, v]) ht hT hg (by with_unfolding_all rfl)
def cutV (xs : List V) (lo hi : Option Int) : List V := (xs.drop (HT.sIx xs.length 0 lo)).take (HT.sIx xs.length xs.length hi - HT.sIx xs.length 0 lo)
theorem cutV_length (xs : List V) (lo hi : Option Int) : (cutV xs lo hi).length <= xs.length := by
 unfold cutV
 rw [List.length_take, List.length_drop]
 omega
end
def ixN (n : Nat) (i : Int) : Option Nat := if 0 <= i then (if i < n then some i.toNat else none) else if -(n : Int) <= i then some (i + n).toNat else none
def atI {α : Type} (xs : List α) (i : Int) : Option α := (ixN xs.length i).bind fun j => xs[j]?
theorem ixN_seq {n : Nat} {i : Int} {j : Nat} (h : ixN n i = some j) : seqIndex? i n = some j /\ j < n /\ -(n : Int) <= i /\ i < n := by
 unfold ixN at h
 by_cases h0 : 0 <= i
 . rw [if_pos h0] at h
   by_cases h1 : i < n
   . rw [if_pos h1] at h
     have e : i.toNat = j := Option.some.inj h
     exact ⟨by rw [seqIndex_of h0 h1, e], by omega, by omega, h1⟩
   . rw [if_neg h1] at h; cases h
 . rw [if_neg h0] at h
   by_cases h1 : -(n : Int) <= i
   . rw [if_pos h1] at h
     have e : (i + n).toNat = j := Option.some.inj h
     exact ⟨by rw [seqIndex_neg (by omega) h1, e], by omega, h1, by omega⟩
   . rw [if_neg h1] at h; cases h
theorem atI_get {α : Type} {xs : List α} {i : Int} {v : α} (h : atI xs i = some v) : ∃ j, seqIndex? i xs.length = some j /\ xs[j]? = some v /\ j < xs.length /\ -(xs.length : Int) <= i /\ i < xs.length := by
 unfold atI at h
 cases e : ixN xs.length i with
 | none => rw [e] at h; cases h
 | some j =>
   rw [e] at h
   obtain ⟨h1, h2, h3, h4⟩ := ixN_seq e
   exact ⟨j, h1, h, h2, h3, h4⟩
theorem atI_nat {α : Type} {xs : List α} {j : Nat} {v : α} (h : xs[j]? = some v) : atI xs (j : Int) = some v := by
 have hj : j < xs.length := (List.getElem?_eq_some_iff.mp h).1
 have e : ixN xs.length (j : Int) = some j := by
  unfold ixN
  rw [if_pos (by omega), if_pos (by omega)]; simp
 unfold atI; rw [e]; exact h
def PlainIx (b : Expr) : Prop := ∀ o i, subscripted b false o i = operate [o, i] (getItem o i)
def IxR (X : Cx) (r : R2) : Prop :=
 ∀ (value slice : Expr) (pins : List (Addr × Obj)) (s : Shared) (σ : St) (H : Hp) (x y : V) (v u : Value) (Q : VK), Inv X pins σ H s -> RelV x v -> RelV y u -> r x y H Q ->
   subscripted slice false v u = operate [v, u] (getItem v u) -> wpAny (model X.prog X.w) X.A (subscriptTail value slice v u) (EP X pins σ Q) X.xe s
def MtR (X : Cx) (id : String) (r : V -> List V -> Hp -> VK -> Prop) : Prop :=
 ∀ (pins : List (Addr × Obj)) (s : Shared) (σ : St) (H : Hp) (x : V) (xs : List V) (v : Value) (us : List Value) (Q : VK), Inv X pins σ H s -> RelV x v -> Vals xs us -> r x xs H Q ->
   wpAny (model X.prog X.w) X.A (call (.builtin id) (v :: us)) (EP X pins σ Q) X.xe s
section
variable {X : Cx} {a b : Expr} {ta tb : TE} {pos : Pos}
theorem IxR.or {r r' : R2} (h : IxR X r) (h' : IxR X r') : IxR X (fun x y H Q => r x y H Q \/ r' x y H Q) := by
 intro value slice pins s σ H x y v u Q I rx ry q hs
 rcases q with q | q
 . exact h value slice pins s σ H x y v u Q I rx ry q hs
 . exact h' value slice pins s σ H x y v u Q I rx ry q hs
theorem pe_ix {r : R2} (hr : IxR X r) (ha : PE X a ta) (hb : PE X b tb) (hs : PlainIx b) : PE X (.Subscript a b pos) (tOp r ta tb) := by
 intro pins s σ H Q I h
 exact Subscript_ (binT ha hb I h fun v u s2 x y H2 I2 rx ry q => hr a b pins s2 σ H2 x y v u Q I2 rx ry q (hs _ _))
def rIxL (K : PySem.W.Frag) : R2 := fun x y H Q => ∃ p xs i v, x = .ref p /\ y = .int i /\ SqL K H p xs /\ atI xs i = some v /\ Q v H
def rIxT (K : PySem.W.Frag) : R2 := fun x y H Q => ∃ p xs i v, x = .ref p /\ y = .int i /\ SqT K H p xs /\ atI xs i = some v /\ Q v H
def rIxS : R2 := fun x y H Q => ∃ z i c, x = .str z /\ y = .int i /\ z.length <= sizeLine /\ atI z.cps.toList i = some c /\ Q (.str ⟨#[c]⟩) H
theorem ix_list : IxR X (rIxL X.K) := by
 intro value slice pins s σ H x y v u Q I rx ry h hs
 obtain ⟨p, xs, i, z, rfl, rfl, hq, he, q⟩ := h
 cases rx
 obtain ⟨t, rfl⟩ := ry
 obtain ⟨its, r, pl, hz⟩ := I.list hq
 obtain ⟨j, h1, h2, h3, h4, h5⟩ := atI_get he
 obtain ⟨w, ew, rw'⟩ := r.get h2
 have hl := r.length
 have hn := line63
 have fin : EP X pins σ Q w s := ⟨z, H, I, rw', q⟩
 by_cases h0 : 0 <= i
 . have hj : i.toNat = j := by
    rw [seqIndex_of h0 h5] at h1
    exact Option.some.inj h1
   exact item_listR pl.isList h0 (by omega) (by rw [hj]; simpa using ew) fin hs
 . have hj : (i + (its.toArray.size : Int)).toNat = j := by
    rw [seqIndex_neg (by omega) h4] at h1
    rw [List.size_toArray, <- hl]
    exact Option.some.inj h1
   exact subscriptTail_builtinR (x := w) pl.isList.typeIs slot_list_getitem.lookup
    (wpAny_getItem_list_neg (Q := fun r s' => r = w /\ EP X pins σ Q r s') pl.isList (by omega) (by rw [List.size_toArray] <;> omega) (by omega) (by rw [hj]; simpa using ew) ⟨rfl, fin⟩) hs
theorem ix_tup : IxR X (rIxT X.K) := by
 intro value slice pins s σ H x y v u Q I rx ry h hs
 obtain ⟨p, xs, i, z, rfl, rfl, hq, he, q⟩ := h
 cases rx
 obtain ⟨t, rfl⟩ := ry
 obtain ⟨its, r, pl, hz⟩ := I.tuple hq
 obtain ⟨j, h1, h2, h3, h4, h5⟩ := atI_get he
 obtain ⟨w, ew, rw'⟩ := r.get h2
 have hl := r.length
 have hn := line63
 have fin : EP X pins σ Q w s := ⟨z, H, I, rw', q⟩
 exact subscriptTail_builtinR (x := w) pl.typeIs slot_tuple_getitem.lookup
  (getItem_tuple (j := j) (Q := fun r s' => r = w /\ EP X pins σ Q r s') pl (by omega) (by omega) (by rw [List.size_toArray, <- hl]; exact h1) (by simpa using ew) ⟨rfl, fin⟩) hs
theorem ix_str : IxR X rIxS := by
 intro value slice pins s σ H x y v u Q I rx ry h hs
 obtain ⟨z, i, c, rfl, rfl, hz, he, q⟩ := h
 obtain ⟨t, rfl⟩ := rx
 obtain ⟨t', rfl⟩ := ry
 obtain ⟨j, h1, h2, h3, h4, h5⟩ := atI_get he
 have hl : z.cps.toList.length = z.length := by simp [Str.length]
 rw [hl] at h1 h4 h5
 have hn := line63
 exact tail_any (typeIs_str s z t) slot_str_getitem.lookup (getItem_str (c := c) (by
  have e1 : decide (i < -(2 ^ 63 : Int)) = false := decide_eq_false (by omega)
  have e2 : decide (i ≥ 2 ^ 63) = false := decide_eq_false (by omega)
  rw [e1, e2, Bool.or_false]) (by rw [h1]; simpa using h2) ⟨.str ⟨#[c]⟩, H, I.tok _, ⟨_, rfl⟩, q⟩) hs
def rIx (K : PySem.W.Frag) : R2 := fun x y H Q => rIxL K x y H Q \/ rIxT K x y H Q \/ rIxS x y H Q
theorem ix_seq : IxR X (rIx X.K) := ix_list.or (ix_tup.or ix_str)
theorem slice_bounds (lo hi : Option Int) (n : Nat) : (sliceBounds lo hi none n).1 = ((HT.sIx n 0 lo : Nat) : Int) /\ (sliceBounds lo hi none n).2.1 = ((HT.sIx n n hi : Nat) : Int) /\ (sliceBounds lo hi none n).2.2 = 1 := by
 refine ⟨?_, ?_, rfl⟩
 . cases lo with
   | none => simp [sliceBounds, HT.sIx]
   | some i =>
     simp only [sliceBounds, HT.sIx, Option.getD_none, show (1 : Int) > 0 by decide, if_true]
     by_cases h : i < 0
     . simp only [h, if_true] <;> omega
     . simp only [h, if_false] <;> omega
 . cases hi with
   | none => simp [sliceBounds, HT.sIx]
   | some i =>
     simp only [sliceBounds, HT.sIx, Option.getD_none, show (1 : Int) > 0 by decide, if_true]
     by_cases h : i < 0
     . simp only [h, if_true] <;> omega
     . simp only [h, if_false] <;> omega
theorem slicePick_cut (its : List Value) (lo hi : Option Int) : slicePick its.toArray lo hi none = ((its.drop (HT.sIx its.length 0 lo)).take (HT.sIx its.length its.length hi - HT.sIx its.length 0 lo)).toArray := by
 obtain ⟨h1, h2, h3⟩ := slice_bounds lo hi its.toArray.size
 unfold slicePick
 rw [h1, h2, h3]
 simp only [sliceRange_one, pick_run, List.size_toArray] <;> rfl
def rSlL (K : PySem.W.Frag) : V -> Option Int -> Option Int -> Hp -> VK -> Prop := fun x lo hi H Q => ∃ a xs, x = .ref a /\ SqL K H a xs /\ ∀ p, H p = none -> Q (.ref p) (upd H p (.lst (cutV xs lo hi)))
theorem sl_list : SlR X (rSlL X.K) := by
 intro pins s σ H x v vl vu lo hi sl Q I rx hs pl pu h
 obtain ⟨a, xs, rfl, hx, q⟩ := h
 cases rx
 obtain ⟨its, r, ht, hz⟩ := I.list hx
 have hlen := r.length
 refine ⟨"list", _, slot_list_getitem.lookup, ht.isList.typeIs, ?_⟩
 refine wpAny_getItem_list_slice ht.isList hs pl pu .none (by simp) ?_ (by rw [List.size_toArray] <;> omega)
 rw [slicePick_cut, <- hlen]
 refine ⟨.ref s.heap.objs.size, _, I.laid (t' := s.toks) (o := .lst (cutV xs lo hi)) (fun b ob q => Heap.get?_push_of_some _ q) (Nat.le_refl _) ?_, rfl, q _ (I.hok.fresh (Nat.le_refl _))⟩
 exact ⟨Nat.le_trans (cutV_length xs lo hi) hz, _, 0, (r.drop (HT.sIx xs.length 0 lo)).take (HT.sIx xs.length xs.length hi - HT.sIx xs.length 0 lo), Heap.get?_push_size _ rfl⟩
theorem call_len_seq : CallR X (.builtin "len") (fun xs H Q => ∃ p ys, xs = [.ref p] /\ (SqL X.K H p ys \/ SqT X.K H p ys) /\ Q (.int ys.length) H) := by
 intro pins s σ H xs us Q I r h
 obtain ⟨p, ys, rfl, hq, q⟩ := h
 obtain ⟨u, rfl, rx⟩ := vals1 r
 cases rx
 have hn := line63
 rcases hq with hq | hq
 . obtain ⟨its, r', pl, hz⟩ := I.list hq
   have hlen := r'.length
   exact Calls.call_len_list pl.isList (by simp only [List.size_toArray] <;> omega) ⟨.int ys.length, H, I.tok _, ⟨s.toks + 1, by rw [List.size_toArray, hlen]⟩, q⟩
 . obtain ⟨its, r', pl, hz⟩ := I.tuple hq
   have hlen := r'.length
   exact len_tuple pl (by simp only [List.size_toArray] <;> omega) ⟨.int ys.length, H, I.tok _, ⟨s.toks + 1, by rw [List.size_toArray, hlen]⟩, q⟩
theorem call_len_str : CallR X (.builtin "len") (fun xs H Q => ∃ z, xs = [.str z] /\ z.length <= sizeLine /\ Q (.int z.length) H) := by
 intro pins s σ H xs us Q I r h
 obtain ⟨z, rfl, hz, q⟩ := h
 obtain ⟨u, rfl, t, rfl⟩ := vals1 r
 have hn := line63
 exact len_str (by omega) ⟨.int z.length, H, I.tok _, ⟨_, rfl⟩, q⟩
theorem call_list_of : CallR X (.type "list") (fun xs H Q => ∃ p ys, xs = [.ref p] /\ (SqL X.K H p ys \/ SqT X.K H p ys) /\ ∀ l, H l = none -> Q (.ref l) (upd H l (.lst ys))) := by
 intro pins s σ H xs us Q I r h
 obtain ⟨p, ys, rfl, hq, q⟩ := h
 obtain ⟨u, rfl, rx⟩ := vals1 r
 cases rx
 have fin : ∀ (its : List Value), Vals ys its -> ys.length <= sizeLine -> ∀ (h' : Heap) (c' : Nat), (∀ b o', s.heap.get? b = some o' -> h'.get? b = some o') ->
  h'.get? s.heap.objs.size = some { cls := .type "list", dict := none, data := .seq its.toArray c', slots := #[] } -> EP X pins σ Q (.ref s.heap.objs.size) { s with heap := h' } := fun its r' hz h' c' kp e =>
  ⟨.ref s.heap.objs.size, _, I.laid (t' := s.toks) kp (Nat.le_refl _) (show ObjOk X.prog X.w _ h' _ (.lst ys) from ⟨hz, its, c', r', e⟩), rfl, q _ (I.hok.fresh (Nat.le_refl _))⟩
 rcases hq with hq | hq
 . obtain ⟨its, r', pl, hz⟩ := I.list hq
   have hlen := r'.length
   obtain ⟨o, ho, hc, n, hd⟩ := pl.isList
   exact call_list_seq p (.inl rfl) ho hc hd (fun h' c' kp e => fin its r' hz h' c' kp e) (by simp only [List.size_toArray] <;> omega)
 . obtain ⟨its, r', pl, hz⟩ := I.tuple hq
   have hlen := r'.length
   obtain ⟨o, ho, hc, n, hd⟩ := pl
   exact call_list_seq p (.inr rfl) ho hc hd (fun h' c' kp e => fin its r' hz h' c' kp e) (by simp only [List.size_toArray] <;> omega)
def tyV (K : PySem.W.Frag) (T : String) (x : V) (H : Hp) : Prop := match x with
 | .str _ => T = "str"
 | .int _ => T = "int"
 | .ref p => (T = "list" /\ ∃ xs, SqL K H p xs) \/ (T = "tuple" /\ ∃ o, K.lookup p = some o /\ o.cls = .type "tuple" /\ o.dict = none) \/
  (T = "dict" /\ ((∃ kvs, H p = some (.dK kvs)) \/ ∃ kvs, H p = some (.dT kvs))) \/ (T = "set" /\ ∃ S n, H p = some (.set S n))
 | _ => False
theorem tyV_is {pins : List (Addr × Obj)} {σ : St} {H : Hp} {s : Shared} {T : String} {x : V} {v : Value} (I : Inv X pins σ H s) (r : RelV x v) (ty : tyV X.K T x H) :
 s.TypeIs v T /\ ∀ a, v = .ref a -> ∃ ob, s.heap.get? a = some ob /\ ob.dict = none := by
 cases x with
 | str z =>
   obtain ⟨t, rfl⟩ := r
   cases (show T = "str" from ty)
   exact ⟨typeIs_str s z t, fun _ e => nomatch e⟩
 | int i =>
   obtain ⟨t, rfl⟩ := r
   cases (show T = "int" from ty)
   exact ⟨typeIs_int s i t, fun _ e => nomatch e⟩
 | ref p =>
   cases r
   rcases ty with ⟨rfl, xs, hq⟩ | ⟨rfl, o, hk, hc, hd⟩ | ⟨rfl, hk⟩ | ⟨rfl, S, n, hk⟩
   . obtain ⟨its, _, pl, _⟩ := I.list hq
     refine ⟨pl.isList.typeIs, fun a e => ?_⟩
     cases e
     obtain ⟨o, n, e, c, hd, _⟩ := pl
     exact ⟨o, e, hd⟩
   . refine ⟨⟨o, I.kIn p o hk, hc⟩, fun a e => ?_⟩
     cases e
     exact ⟨o, I.kIn _ o hk, hd⟩
   . have z : ∃ o, s.heap.get? p = some o /\ o.ExactDict := by
      rcases hk with ⟨kvs, hk⟩ | ⟨kvs, hk⟩
      . obtain ⟨_, _, _, _, o, _, _, e, ex, _⟩ := I.hok p _ hk
        exact ⟨o, e, ex⟩
      . obtain ⟨_, _, _, _, o, _, _, e, ex, _⟩ := I.hok p _ hk
        exact ⟨o, e, ex⟩
     obtain ⟨o, e, ex⟩ := z
     refine ⟨⟨o, e, ex.1⟩, fun a e2 => ?_⟩
     cases e2
     exact ⟨o, e, ex.2.1⟩
   . obtain ⟨o, _, _, _, e, ex, _⟩ := I.hok p _ hk
     refine ⟨⟨o, e, ex.1⟩, fun a e2 => ?_⟩
     cases e2
     exact ⟨o, e, ex.2.1⟩
 | _ => exact False.elim ty
def tBM0 (K : PySem.W.Frag) (T : String) (r : V -> List V -> Hp -> VK -> Prop) (to : TE) : TE := fun σ H Q => to σ H fun x H1 => tyV K T x H1 /\ r x [] H1 Q
def tBM (K : PySem.W.Frag) (T : String) (r : V -> List V -> Hp -> VK -> Prop) (to : TE) (t : TA) : TE := fun σ H Q => to σ H fun x H1 => tyV K T x H1 /\ t σ H1 fun xs H2 => r x xs H2 Q
variable {o e : Expr} {es : List Expr} {to : TE} {t : TA} {name : Str} {apos cpos : Pos} {T id : String} {r : V -> List V -> Hp -> VK -> Prop}
theorem pe_bm0 (pa : PlainAttrs T) (slot : Slot T name id) (hty : typeOf (.builtin id) = pure (.type "method_descriptor")) (hm : MtR X id r) (ho : PE X o to)
 (hbase : attributeBase o name X.env (eval o X.env) = eval o X.env := by rfl) (hline : (apos.endLine == cpos.line) = true := by rfl) : PE X (.Call (.Attribute o name apos) [] [] cpos) (tBM0 X.K T r to) := by
 intro pins s σ H Q I h
 refine wpAny_Call_method0_late hbase hline (thn (ho pins s σ H _ I h) fun v s1 ⟨x, H1, I1, r1, ty, q1⟩ => ?_)
 obtain ⟨h1, h2⟩ := tyV_is I1 r1 ty
 exact ⟨T, id, pa, slot, hty, h1, h2, Calls.callWith_builtin rfl (PySem.evalArgs_none (hm pins s1 σ H1 x [] v [] Q I1 r1 .nil q1))⟩
theorem pe_bm (pa : PlainAttrs T) (slot : Slot T name id) (hty : typeOf (.builtin id) = pure (.type "method_descriptor")) (hm : MtR X id r) (ho : PE X o to) (ha : PA X (e :: es) t)
 (hbase : attributeBase o name X.env (eval o X.env) = eval o X.env := by rfl)
 (hfew : ((backTo cpos (starEach (e :: es) X.env)).all (fun x => !x.1) && (backToKw cpos (keywordEach [] X.env)).all (fun x => x.1.isSome)
  && decide ((e :: es).length + ([] : List Keyword).length + (if ([] : List Keyword).isEmpty then 0 else 1) < 30)) = true := by rfl)
 (hline : (apos.endLine == cpos.line) = true := by rfl) (hs : starEach (e :: es) X.env = (false, eval e X.env) :: starEach es X.env := by rfl) (hplain : (backTo cpos (starEach es X.env)).any (·.1) = false := by rfl) :
 PE X (.Call (.Attribute o name apos) (e :: es) [] cpos) (tBM X.K T r to t) := by
 intro pins s σ H Q I h
 refine wpAny_Call_method_late hbase hfew hline rfl (thn (ho pins s σ H _ I h) fun v s1 ⟨x, H1, I1, r1, ty, q1⟩ => ?_)
 obtain ⟨h1, h2⟩ := tyV_is I1 r1 ty
 refine ⟨T, id, pa, slot, hty, h1, h2, ?_⟩
 have hA := ha cpos pins s1 σ H1 _ I1 q1
 rw [hs] at hA ⊢
 refine Calls.callWith_builtin (by show (false || (backTo cpos (starEach es X.env)).any (·.1)) = false; rw [hplain] <;> rfl) (Calls.evalArgs_plain ?_)
 exact thn hA fun us s2 ⟨vs, H2, I2, r2, q2⟩ => hm pins s2 σ H2 x vs v us Q I2 r1 r2 q2
end
def MtM (X : Cx) (id : String) (r : V -> List V -> Hp -> VK -> Prop) : Prop :=
 ∀ (pins : List (Addr × Obj)) (s : Shared) (σ : St) (H : Hp) (x : V) (xs : List V) (v : Value) (us : List Value) (Q : VK), Inv X pins σ H s -> RelV x v -> Vals xs us -> r x xs H Q ->
   wpAny (model X.prog X.w) X.A (call (.builtin id) (v :: us)) (EP X pins σ Q) X.xe s
theorem Vals.one : ∀ {x : V} {us : List Value}, Vals [x] us -> ∃ u, us = [u] /\ RelV x u
 | _, _, .cons r .nil => ⟨_, rfl, r⟩
theorem Vals.zero : ∀ {us : List Value}, Vals [] us -> us = []
 | _, .nil => rfl
theorem Vals.dropLast {xs : List V} {us : List Value} (h : Vals xs us) : Vals xs.dropLast us.dropLast := by
 induction h with
 | nil => exact .nil
 | cons r t ih =>
   cases t with
   | nil => exact .nil
   | cons q t' => exact .cons r ih
theorem erase_last {α : Type} (l : List α) : l.eraseIdx (l.length - 1) = l.dropLast := by
 induction l with
 | nil => rfl
 | cons a r ih =>
   cases r with
   | nil => rfl
   | cons b r =>
     have e : (a :: b :: r).length - 1 = ((b :: r).length - 1) + 1 := by
      have h1 : (a :: b :: r).length = r.length + 2 := rfl
      have h2 : (b :: r).length = r.length + 1 := rfl
      omega
     rw [e, List.eraseIdx_cons_succ, ih]
     all_goals rfl
section
variable {X : Cx} {pins : List (Addr × Obj)} {σ : St} {H : Hp} {s : Shared} {l b : Addr} {xs ys zs : List V}
theorem Inv.lset {its its' : List Value} {n : Nat} {f : Array Value -> Array Value} {t' : Nat} (I : Inv X pins σ H s) (hH : H l = some (.lst xs))
 (e : s.heap.get? l = some { cls := .type "list", data := .seq its.toArray n }) (hf : f its.toArray = its'.toArray) (hv : Vals ys its') (hz : ys.length <= sizeLine) :
 Inv X pins σ (upd H l (.lst ys)) { s with heap := s.heap.update l (Obj.mapSeq f), toks := t' } := by
 have q := PySem.IsL.update e f
 rw [hf] at q
 refine I.write (x := l) (e := l) (by rw [hH]; exact trivial) (.inl rfl) (fun b' u hb hu => (Heap.get?_update_other s.heap (Obj.mapSeq f) (Ne.symm hb)).trans hu) ⟨_, q⟩ ?_
 exact ⟨hz, its', _, hv, q⟩
theorem Inv.lnew {its : List Value} {t' : Nat} (I : Inv X pins σ H s) (hv : Vals ys its) (hz : ys.length <= sizeLine) :
 Inv X pins σ (upd H s.heap.objs.size (.lst ys)) { s with heap := s.heap.push { cls := .type "list", data := .seq its.toArray }, toks := t' } :=
 I.laid (fun _ _ q => Heap.get?_push_of_some _ q) (Nat.le_refl _) ⟨hz, its, 0, hv, Heap.get?_push_size _ rfl⟩
theorem Inv.fresh (I : Inv X pins σ H s) : H s.heap.objs.size = none := I.hok.fresh (Nat.le_refl _)
theorem Inv.lstM (I : Inv X pins σ H s) (hH : H l = some (.lst xs)) : xs.length <= sizeLine /\ ∃ (its : List Value) (n : Nat), Vals xs its /\ xs.length = its.length /\ s.heap.get? l = some { cls := .type "list", data := .seq its.toArray n } := by
 obtain ⟨z, its, n, r, e⟩ := I.hok l _ hH
 exact ⟨z, its, n, r, r.length, e⟩
theorem notLongL {n : Nat} (h : n <= sizeLine) : Builtin.List.listTooLong n = false := by
 unfold Builtin.List.listTooLong
 exact decide_eq_false (by omega)
end
section
variable {X : Cx}
def rAppend : V -> List V -> Hp -> VK -> Prop := fun x vs H Q => ∃ l xs y, x = .ref l /\ vs = [y] /\ H l = some (.lst xs) /\ xs.length < sizeLine /\ Q .non (upd H l (.lst (xs ++ [y])))
theorem mt_append : MtM X "list.append" rAppend := by
 intro pins s σ H x vs v us Q I rx rv h
 obtain ⟨l, xs, y, rfl, rfl, hH, hz, q⟩ := h
 cases rx
 obtain ⟨u, rfl, ru⟩ := rv.one
 obtain ⟨z, its, n, r, hl, e⟩ := I.lstM hH
 refine call_meets F.slot_list_append ⟨_, e, rfl⟩ F.entry_list_append (F.args_list_append_2 _ _) (PySem.list_append l its.toArray n u (by rw [List.size_toArray]; omega)) ⟨e, ?_⟩
 refine ⟨.non, _, I.lset (its' := its ++ [u]) hH e (by simp) (r.append (.cons ru .nil)) ?_, rfl, q⟩
 rw [List.length_append, List.length_singleton]
 omega
def rExtend : V -> List V -> Hp -> VK -> Prop := fun x vs H Q => ∃ l b xs zs, x = .ref l /\ vs = [.ref b] /\ H l = some (.lst xs) /\ H b = some (.lst zs) /\ xs.length + zs.length <= sizeLine /\ Q .non (upd H l (.lst (xs ++ zs)))
theorem mt_extend : MtM X "list.extend" rExtend := by
 intro pins s σ H x vs v us Q I rx rv h
 obtain ⟨l, b, xs, zs, rfl, rfl, hH, hB, hz, q⟩ := h
 cases rx
 obtain ⟨u, rfl, ru⟩ := rv.one
 cases ru
 obtain ⟨z, its, n, r, hl, e⟩ := I.lstM hH
 obtain ⟨z2, its2, n2, r2, hl2, e2⟩ := I.lstM hB
 have hsz : its.toArray.size + its2.toArray.size <= sizeLine := by rw [List.size_toArray, List.size_toArray]; omega
 have hlong : ¬ (!its.toArray.isEmpty && Builtin.List.listTooLong (its.toArray.size + its2.toArray.size)) = true := by
  rw [notLongL hsz, Bool.and_false]
  exact Bool.false_ne_true
 refine call_meets F.slot_list_extend ⟨_, e, rfl⟩ F.entry_list_extend (F.args_list_extend_2 _ _)
  (AutoSeq1.list_extend_list_list_0 l its.toArray n b its2.toArray n2 hlong (by rw [List.size_toArray]; omega) (by omega)) ⟨e, e2, ?_⟩
 refine ⟨.non, _, I.lset (its' := its ++ its2) hH e (by simp) (r.append r2) ?_, rfl, q⟩
 rw [List.length_append]
 omega
def rPop : V -> List V -> Hp -> VK -> Prop := fun x vs H Q => ∃ l xs y, x = .ref l /\ vs = [] /\ H l = some (.lst xs) /\ xs[xs.length - 1]? = some y /\ Q y (upd H l (.lst xs.dropLast))
theorem mt_pop : MtM X "list.pop" rPop := by
 intro pins s σ H x vs v us Q I rx rv h
 obtain ⟨l, xs, y, rfl, rfl, hH, hy, q⟩ := h
 cases rx
 have hus := rv.zero
 subst hus
 obtain ⟨z, its, n, r, hl, e⟩ := I.lstM hH
 obtain ⟨u, hu, ru⟩ := r.get hy
 have hy' : its.toArray[its.toArray.size - 1]? = some u := by
  show its.toArray[its.length - 1]? = some u
  rw [<- Array.getElem?_toList, <- hl]
  exact hu
 refine call_meets F.slot_list_pop ⟨_, e, rfl⟩ F.entry_list_pop (F.args_list_pop_1 _) (MeetsSeq.list_pop_last l its.toArray n u hy' (by rw [List.size_toArray]; omega)) ⟨e, ?_⟩
 refine ⟨y, _, I.lset (its' := its.dropLast) hH e ?_ r.dropLast ?_, ru, q⟩
 . show its.toArray.eraseIdxIfInBounds (its.toArray.size - 1) = its.dropLast.toArray
   rw [List.size_toArray, List.eraseIdxIfInBounds_toArray, erase_last]
 . rw [List.length_dropLast]
   omega
def rCat : R2 := fun x y H Q => ∃ l b xs zs, x = .ref l /\ y = .ref b /\ H l = some (.lst xs) /\ H b = some (.lst zs) /\ xs.length + zs.length <= sizeLine /\ ∀ p, H p = none -> Q (.ref p) (upd H p (.lst (xs ++ zs)))
theorem op_cat : OpR X (binaryOp .Add) rCat := by
 intro pins s σ H x y v u Q I rx ry h
 obtain ⟨l, b, xs, zs, rfl, rfl, hH, hB, hz, q⟩ := h
 cases rx
 cases ry
 obtain ⟨z, its, n, r, hl, e⟩ := I.lstM hH
 obtain ⟨z2, its2, n2, r2, hl2, e2⟩ := I.lstM hB
 refine PySem.P.add_list e e2 ?_ (by rw [List.size_toArray, List.size_toArray]; omega)
 have ea : its.toArray ++ its2.toArray = (its ++ its2).toArray := by simp
 rw [ea]
 exact ⟨.ref _, _, I.lnew (t' := s.toks) (r.append r2) (by rw [List.length_append]; omega), rfl, q _ I.fresh⟩
end
section
variable {prog : Program} {w : World} {A : Around} {E : Value -> Shared -> Prop} {s : Shared}
set_option maxRecDepth 100000 in
end
section
variable {X : Cx}
end
section
variable {κ : Type} [DecidableEq κ]
def valV (kvs : List (κ × V)) (k : κ) : Option V := (kvs.find? fun kv => decide (kv.1 = k)).map (·.2)
def putK (kvs : List (κ × V)) (k : κ) (v : V) : List (κ × V) :=
 if (kvs.any fun kv => decide (kv.1 = k)) = true then kvs.map (fun kv => if kv.1 = k then (kv.1, v) else kv) else kvs ++ [(k, v)]
def dropK (kvs : List (κ × V)) (k : κ) : List (κ × V) := kvs.filter fun kv => decide (kv.1 ≠ k)
theorem valV_pos {p : κ × V} {r : List (κ × V)} {k : κ} (e : p.1 = k) : valV (p :: r) k = some p.2 := by simp [valV, List.find?_cons, e]
theorem valV_neg {p : κ × V} {r : List (κ × V)} {k : κ} (e : ¬ p.1 = k) : valV (p :: r) k = valV r k := by simp [valV, List.find?_cons, e]
theorem valV_any (k : κ) : ∀ kvs : List (κ × V), (kvs.any fun kv => decide (kv.1 = k)) = (valV kvs k).isSome
 | [] => rfl
 | p :: r => by
   rw [List.any_cons]
   by_cases e : p.1 = k
   . simp only [valV_pos e, decide_eq_true e, Bool.true_or, Option.isSome_some]
   . rw [valV_neg e, decide_eq_false e, Bool.false_or]; exact valV_any k r
theorem length_putK (kvs : List (κ × V)) (k : κ) (v : V) : (putK kvs k v).length <= kvs.length + 1 := by
 unfold putK
 split
 . rw [List.length_map]; omega
 . rw [List.length_append, List.length_cons, List.length_nil]; omega
theorem RelO.isSome_eq {o : Option V} {u : Option Value} (r : RelO o u) : o.isSome = u.isSome := by
 cases o with
 | none => cases u with
   | none => rfl
   | some _ => exact (show False from r).elim
 | some _ => cases u with
   | none => exact (show False from r).elim
   | some _ => rfl
theorem KV.val {kvs : List (κ × V)} {vs : List (κ × Value)} (r : KV kvs vs) (k : κ) : RelO (valV kvs k) (valueAt vs k) := by
 unfold KV at r
 induction r with
 | nil => exact True.intro
 | @cons p q ps qs h t ih =>
   obtain ⟨h1, h2⟩ := h
   by_cases e : p.1 = k
   . have e' : q.1 = k := h1.symm.trans e
     have b : valueAt (q :: qs) k = some q.2 := by simp [valueAt, List.find?_cons, e']
     rw [valV_pos e, b]; exact h2
   . have e' : ¬ q.1 = k := fun z => e (h1.trans z)
     have b : valueAt (q :: qs) k = valueAt qs k := by simp [valueAt, List.find?_cons, e']
     rw [valV_neg e, b]; exact ih
theorem KV.any {kvs : List (κ × V)} {vs : List (κ × Value)} (r : KV kvs vs) (k : κ) : (kvs.any fun kv => decide (kv.1 = k)) = vs.any fun kv => decide (kv.1 = k) := by
 unfold KV at r
 induction r with
 | nil => rfl
 | cons h t ih => rw [List.any_cons, List.any_cons, ih, h.1]
theorem KV.repl {kvs : List (κ × V)} {vs : List (κ × Value)} (r : KV kvs vs) (k : κ) {y : V} {u : Value} (ry : RelV y u) :
 KV (kvs.map fun kv => if kv.1 = k then (kv.1, y) else kv) (vs.map fun kv => if kv.1 = k then (kv.1, u) else kv) := by
 unfold KV at r ⊢
 induction r with
 | nil => exact .nil
 | @cons p q ps qs h t ih =>
   rw [List.map_cons, List.map_cons]
   refine .cons ?_ ih
   obtain ⟨h1, h2⟩ := h
   by_cases e : p.1 = k
   . rw [if_pos e, if_pos (h1.symm.trans e)]; exact ⟨h1, ry⟩
   . rw [if_neg e, if_neg (fun z => e (h1.trans z))]; exact ⟨h1, h2⟩
theorem KV.put {kvs : List (κ × V)} {vs : List (κ × Value)} (r : KV kvs vs) (k : κ) {y : V} {u : Value} (ry : RelV y u) : KV (putK kvs k y) (stored vs k u) := by
 unfold putK stored
 rw [r.any k]
 by_cases e : (vs.any fun kv => decide (kv.1 = k)) = true
 . rw [if_pos e, if_pos e]; exact r.repl k ry
 . rw [if_neg e, if_neg e]; exact Paired.snoc r ⟨rfl, ry⟩
theorem KV.drop {kvs : List (κ × V)} {vs : List (κ × Value)} (r : KV kvs vs) (k : κ) : KV (dropK kvs k) (without vs k) := by
 unfold KV at r ⊢
 unfold dropK without
 induction r with
 | nil => exact .nil
 | @cons p q ps qs h t ih =>
   obtain ⟨h1, h2⟩ := h
   rw [List.filter_cons, List.filter_cons]
   by_cases e : p.1 = k
   . have a : ¬ decide (p.1 ≠ k) = true := by simp [e]
     have b : ¬ decide (q.1 ≠ k) = true := by simp [h1.symm.trans e]
     rw [if_neg a, if_neg b]; exact ih
   . have e' : ¬ q.1 = k := fun z => e (h1.trans z)
     have a : decide (p.1 ≠ k) = true := by simp [e]
     have b : decide (q.1 ≠ k) = true := by simp [e']
     rw [if_pos a, if_pos b]; exact .cons ⟨h1, h2⟩ ih
theorem KV.length {kvs : List (κ × V)} {vs : List (κ × Value)} (r : KV kvs vs) : kvs.length = vs.length := Paired.length r
theorem dropK_le (kvs : List (κ × V)) (k : κ) : (dropK kvs k).length <= kvs.length := List.length_filter_le _ _
end
theorem kV_is {P : Program} {w : World} {k : Key} {u : Value} (r : RelV (kV k) u) : (mixKind P w).is k u = true := by
 cases k with
 | inl i => obtain ⟨t, e⟩ := (show ∃ t, u = Value.int i t from r); subst e; exact mixKind_int P w i t
 | inr x => obtain ⟨t, e⟩ := (show ∃ t, u = Value.str x t from r); subst e; exact mixKind_str P w x t
theorem items_are {P : Program} {w : World} : ∀ {ks : List Key} {us : List Value}, Vals (ks.map kV) us -> ItemsAre (mixKind P w) ks us
 | [], _, r => by rw [List.map_nil] at r; cases r; exact .nil
 | k :: ks, _, r => by
   rw [List.map_cons] at r
   cases r with
   | cons h t => exact .cons (kV_is h) (items_are t)
abbrev KT (H : Hp) : List (List Key × V) -> List (List Key × Addr × Value) -> Prop := Paired fun p q => p.1 = q.1 /\ H q.2.1 = some (.tup (p.1.map kV)) /\ RelV p.2 q.2.2
theorem KT.val {H : Hp} {kvs : List (List Key × V)} {xs : List (List Key × Addr × Value)} (r : KT H kvs xs) (k : List Key) : RelO (valV kvs k) ((atKey xs k).map (·.2)) := by
 induction r with
 | nil => exact True.intro
 | @cons p q ps qs h t ih =>
   obtain ⟨h1, _, h2⟩ := h
   by_cases e : p.1 = k
   . have e' : q.1 = k := h1.symm.trans e
     have b : atKey (q :: qs) k = some q.2 := by simp [atKey, List.find?_cons, e']
     rw [valV_pos e, b]; exact h2
   . have e' : ¬ q.1 = k := fun z => e (h1.trans z)
     have b : atKey (q :: qs) k = atKey qs k := by simp [atKey, List.find?_cons, e']
     rw [valV_neg e, b]; exact ih
theorem KT.repl {H : Hp} {kvs : List (List Key × V)} {xs : List (List Key × Addr × Value)} (r : KT H kvs xs) (k : List Key) {y : V} {u : Value} (ry : RelV y u) :
 KT H (kvs.map fun kv => if kv.1 = k then (kv.1, y) else kv) (xs.map (putAt k u)) := by
 induction r with
 | nil => exact .nil
 | @cons p q ps qs h t ih =>
   rw [List.map_cons, List.map_cons]
   refine .cons ?_ ih
   obtain ⟨h1, h2, h3⟩ := h
   unfold putAt
   by_cases e : p.1 = k
   . rw [if_pos e, if_pos (h1.symm.trans e)]; exact ⟨h1, h2, ry⟩
   . rw [if_neg e, if_neg (fun z => e (h1.trans z))]; exact ⟨h1, h2, h3⟩
theorem KT.put {H : Hp} {kvs : List (List Key × V)} {xs : List (List Key × Addr × Value)} (r : KT H kvs xs) (k : List Key) {b : Addr} {y : V} {u : Value} (hb : H b = some (.tup (k.map kV))) (ry : RelV y u) :
 KT H (putK kvs k y) (storedH xs k b u) := by
 have e : (kvs.any fun kv => decide (kv.1 = k)) = (atKey xs k).isSome := by
  rw [valV_any, (r.val k).isSome_eq, Option.isSome_map]
 unfold putK storedH
 rw [e]
 by_cases q : (atKey xs k).isSome = true
 . rw [if_pos q, if_pos q]; exact r.repl k ry
 . rw [if_neg q, if_neg q]; exact Paired.snoc r ⟨rfl, hb, ry⟩
theorem KT.keeps {H H' : Hp} {kvs : List (List Key × V)} {xs : List (List Key × Addr × Value)} (r : KT H kvs xs) (ht : ∀ b ys, H b = some (.tup ys) -> H' b = some (.tup ys)) : KT H' kvs xs :=
 Paired.mapP r fun _ _ z => ⟨z.1, ht _ _ z.2.1, z.2.2⟩
section
variable {P : Program} {w : World} {H : Hp} {h : Heap} {a : Addr}
theorem rd_of {u : HO} (ok : HOk P w H h) (e : Rd H a u) : ObjOk P w H h a u := e.ok ok
theorem dk_rd {kvs : List (Key × V)} (ok : HOk P w H h) (e : Rd H a (.dK kvs)) : kvs.length <= sizeLine /\ (a == sysModules) = false /\ ∃ vs, KV kvs vs /\ h.DictOf (mixKind P w) a vs :=
 show ObjOk P w H h a (.dK kvs) from rd_of ok e
theorem dk_of {kvs : List (Key × V)} (ok : HOk P w H h) (e : H a = some (.dK kvs)) : kvs.length <= sizeLine /\ (a == sysModules) = false /\ ∃ vs, KV kvs vs /\ h.DictOf (mixKind P w) a vs := dk_rd ok (.inl e)
theorem key_of {ks : List Key} (ok : HOk P w H h) (e : H a = some (.tup (ks.map kV))) : (tupleKind (mixKind P w)).is h ks a := by
 obtain ⟨_, its, r, o, h1, h2, n, h3⟩ := (show ObjOk P w H h a (.tup (ks.map kV)) from ok a _ e)
 exact ⟨o, its.toArray, n, h1, h2, h3, by simpa using items_are r⟩
theorem dt_rd {kvs : List (List Key × V)} (ok : HOk P w H h) (e : Rd H a (.dT kvs)) : kvs.length <= sizeLine /\ (a == sysModules) = false /\
 ∃ xs, KT H kvs xs /\ h.DictOfH (tupleKind (mixKind P w)) a xs := by
 obtain ⟨z, y, xs, r, o, es, ep, h1, h2, h3, h4, h5⟩ := (show ObjOk P w H h a (.dT kvs) from rd_of ok e)
 refine ⟨z, y, xs, r, o, es, ep, h1, h2, h3, h4, fun x hx => ?_, h5⟩
 have all : ∀ {l : List (List Key × V)} {m : List (List Key × Addr × Value)}, KT H l m -> ∀ x ∈ m, (tupleKind (mixKind P w)).is h x.1 x.2.1 := by
  intro l m q
  induction q with
  | nil => intro x hx; exact nomatch hx
  | @cons p q ps qs hq t ih =>
    intro x hx
    rcases List.mem_cons.mp hx with e | hx
    . subst e
      exact key_of ok (by rw [<- hq.1]; exact hq.2.1)
    . exact ih x hx
 exact all r x hx
theorem dt_of {kvs : List (List Key × V)} (ok : HOk P w H h) (e : H a = some (.dT kvs)) : kvs.length <= sizeLine /\ (a == sysModules) = false /\
 ∃ xs, KT H kvs xs /\ h.DictOfH (tupleKind (mixKind P w)) a xs := dt_rd ok (.inl e)
end
def DGet (H : Hp) (a : Addr) (y : V) (r : Option V) : Prop :=
 (∃ kvs k, Rd H a (.dK kvs) /\ y = kV k /\ r = valV kvs k) \/ ∃ kvs k b, Rd H a (.dT kvs) /\ y = .ref b /\ H b = some (.tup (k.map kV)) /\ r = valV kvs k
def DPut (H : Hp) (a : Addr) (y v : V) (H' : Hp) : Prop :=
 (∃ kvs k, H a = some (.dK kvs) /\ y = kV k /\ kvs.length < sizeLine /\ H' = upd H a (.dK (putK kvs k v))) \/
 ∃ kvs k b, H a = some (.dT kvs) /\ y = .ref b /\ H b = some (.tup (k.map kV)) /\ kvs.length < sizeLine /\ H' = upd H a (.dT (putK kvs k v))
theorem DGet.k {H : Hp} {a : Addr} {kvs : List (Key × V)} {k : Key} (e : H a = some (.dK kvs)) : DGet H a (kV k) (valV kvs k) := .inl ⟨kvs, k, .inl e, rfl, rfl⟩
theorem DPut.k {H : Hp} {a : Addr} {kvs : List (Key × V)} {k : Key} {v : V} (e : H a = some (.dK kvs)) (hl : kvs.length < sizeLine) : DPut H a (kV k) v (upd H a (.dK (putK kvs k v))) := .inl ⟨kvs, k, e, rfl, hl, rfl⟩
section
variable {X : Cx} {pins : List (Addr × Obj)} {σ : St} {H : Hp} {s : Shared} {a : Addr} {y v : V} {u r : Value} {o : Option V} {A : Around} {E : Value -> Shared -> Prop}
theorem Inv.big (I : Inv X pins σ H s) : sysModules < s.heap.objs.size := by
 have h : mainGlobals < s.heap.objs.size := (I.mod.glob.keeps I.bk).lt
 exact Nat.lt_trans (by decide) h
theorem d_getItem {Q : Value -> Shared -> Prop} (hu : A.units + 1 < cLine) (I : Inv X pins σ H s) (g : DGet H a y (some v)) (ry : RelV y u) (h : ∀ w' s', Inv X pins σ H s' -> RelV v w' -> Q w' s') :
 wpAny (model X.prog X.w) A (getItem (.ref a) u) Q E s := by
 rcases g with ⟨kvs, k, e, ey, l⟩ | ⟨kvs, k, b, e, ey, eb, l⟩
 . subst ey
   obtain ⟨z, hd, vs, rel, dd⟩ := dk_rd I.hok e
   obtain ⟨w', hw, rw'⟩ := RelO.some_of (v := v) (o := valueAt vs k) (by rw [l]; exact rel.val k)
   exact wpAny_getItem_of (kV_is ry) dd.mapOf hw (h w' _ (I.tok _) rw')
 . subst ey
   cases (show u = Value.ref b from ry)
   obtain ⟨z, hd, xs, rel, dd⟩ := dt_rd I.hok e
   obtain ⟨w', hw, rw'⟩ := RelO.some_of (v := v) (o := (atKey xs k).map (·.2)) (by rw [l]; exact rel.val k)
   obtain ⟨p, hp, hp2⟩ := Option.map_eq_some_iff.mp hw
   refine wpAny_getItem_heap (tupleKind_room_in1 hu) (key_of I.hok eb) dd hp ?_
   rw [hp2]
   exact h w' _ (I.tok _) rw'
theorem d_in {Q : Value -> Shared -> Prop} (hu : A.units + 1 < cLine) (I : Inv X pins σ H s) (g : DGet H a y o) (ry : RelV y u) (h : ∀ s', Inv X pins σ H s' -> Q (.bool o.isSome) s') :
 wpAny (model X.prog X.w) A (compareOp .In u (.ref a)) Q E s := by
 rcases g with ⟨kvs, k, e, ey, l⟩ | ⟨kvs, k, b, e, ey, eb, l⟩
 . subst ey
   obtain ⟨z, hd, vs, rel, dd⟩ := dk_rd I.hok e
   refine wpAny_in_of (kV_is ry) hd dd.mapOf ?_
   rw [<- (rel.val k).isSome_eq, <- l]
   exact h _ (I.tok _)
 . subst ey
   cases (show u = Value.ref b from ry)
   obtain ⟨z, hd, xs, rel, dd⟩ := dt_rd I.hok e
   refine wpAny_in_heap (tupleKind_room_in1 hu) (key_of I.hok eb) hd dd ?_
   have q := (rel.val k).isSome_eq
   rw [Option.isSome_map] at q
   rw [<- q, <- l]
   exact h _ (I.tok _)
theorem d_notIn {Q : Value -> Shared -> Prop} (hu : A.units + 1 < cLine) (I : Inv X pins σ H s) (g : DGet H a y o) (ry : RelV y u) (h : ∀ s', Inv X pins σ H s' -> Q (.bool (!o.isSome)) s') :
 wpAny (model X.prog X.w) A (compareOp .NotIn u (.ref a)) Q E s := by
 rcases g with ⟨kvs, k, e, ey, l⟩ | ⟨kvs, k, b, e, ey, eb, l⟩
 . subst ey
   obtain ⟨z, hd, vs, rel, dd⟩ := dk_rd I.hok e
   refine wpAny_notIn_of (kV_is ry) hd dd.mapOf ?_
   rw [<- (rel.val k).isSome_eq, <- l]
   exact h _ (I.tok _)
 . subst ey
   cases (show u = Value.ref b from ry)
   obtain ⟨z, hd, xs, rel, dd⟩ := dt_rd I.hok e
   refine wpAny_notIn_heap (tupleKind_room_in1 hu) (key_of I.hok eb) hd dd ?_
   have q := (rel.val k).isSome_eq
   rw [Option.isSome_map] at q
   rw [<- q, <- l]
   exact h _ (I.tok _)
theorem d_write {h' : Heap} {t' : Nat} {ob : HO} (I : Inv X pins σ H s) (mu : Mut (H a)) (hs : Heap.SameBut a s.heap h') (he : ∃ q, h'.get? a = some q) (new : ObjOk X.prog X.w (upd H a ob) h' a ob) :
 Inv X pins σ (upd H a ob) { s with heap := h', toks := t' } :=
 I.write (x := a) (e := a) mu (.inl rfl) (fun b q hb z => (hs.2 b hb).trans z) he new
theorem dk_new {P : Program} {w : World} {H' : Hp} {h' : Heap} {kvs : List (Key × V)} {vs : List (Key × Value)} (z : kvs.length <= sizeLine) (hd : (a == sysModules) = false) (rel : KV kvs vs) (dd : h'.DictOf (mixKind P w) a vs) :
 ObjOk P w H' h' a (.dK kvs) := ⟨z, hd, vs, rel, dd⟩
theorem d_setItem {H' : Hp} {Q : Unit -> Shared -> Prop} (hu : A.units + 1 < cLine) (I : Inv X pins σ H s) (g : DPut H a y v H') (ry : RelV y u) (rv : RelV v r) (h : ∀ s', Inv X pins σ H' s' -> Q () s') :
 wpAny (model X.prog X.w) A (setItem (.ref a) u r) Q E s := by
 rcases g with ⟨kvs, k, e, ey, l, eH⟩ | ⟨kvs, k, b, e, ey, eb, l, eH⟩
 . subst ey eH
   obtain ⟨z, hd, vs, rel, dd⟩ := dk_of I.hok e
   have hz : vs.length <= sizeLine := by rw [<- rel.length]; exact z
   have hl : (putK kvs k v).length <= sizeLine := by have := length_putK kvs k v; omega
   refine wpAny_setItem_pairs (hsz := hz) (kV_is ry) dd fun h' dd' hs => h _ ?_
   have he : ∃ q, h'.get? a = some q := let ⟨q, _, _, hq, _⟩ := dd'; ⟨q, hq⟩
   exact d_write I (by rw [e]; exact True.intro) hs he (dk_new hl hd (rel.put k rv) dd')
 . subst ey eH
   cases (show u = Value.ref b from ry)
   obtain ⟨z, hd, xs, rel, dd⟩ := dt_of I.hok e
   have hz : xs.length <= sizeLine := by rw [<- Paired.length rel]; exact z
   have hl : (putK kvs k v).length <= sizeLine := by have := length_putK kvs k v; omega
   refine wpAny_setItem_heap (hsz := hz) (tupleKind_room_in1 hu) (key_of I.hok eb) dd fun h' dd' hs => h _ ?_
   obtain ⟨q, es, ep, hq, h2, h3, h4, _, h5⟩ := dd'
   refine d_write I (by rw [e]; exact True.intro) hs ⟨q, hq⟩ ⟨hl, hd, _, (rel.put k eb rv).keeps fun c ys ec => ?_, q, es, ep, hq, h2, h3, h4, h5⟩
   rw [upd_ne (ne_of ec e (fun z => nomatch z))]
   exact ec
end
section
variable {X : Cx} {pins : List (Addr × Obj)} {σ : St} {H : Hp} {s : Shared} {a : Addr} {kvs : List (Key × V)} {k : Key} {u : Value} {A : Around} {E : Value -> Shared -> Prop}
theorem d_pop {v : V} {more : List Value} {Q : Value -> Shared -> Prop} (I : Inv X pins σ H s) (e : H a = some (.dK kvs)) (ry : RelV (kV k) u) (l : valV kvs k = some v) (hm : more = [] \/ ∃ x, more = [x])
 (h : ∀ w' s', Inv X pins σ (upd H a (.dK (dropK kvs k))) s' -> RelV v w' -> Q w' s') : wpAny (model X.prog X.w) A (call (.builtin "dict.pop") (.ref a :: u :: more)) Q E s := by
 obtain ⟨z, hd, vs, rel, dd⟩ := dk_of I.hok e
 obtain ⟨w', hw, rw'⟩ := RelO.some_of (v := v) (o := valueAt vs k) (by rw [<- l]; exact rel.val k)
 have hp : (keyPart u).isSome = true := by
  cases k with
  | inl i => obtain ⟨t, q⟩ := (show ∃ t, u = Value.int i t from ry); subst q; rfl
  | inr x => obtain ⟨t, q⟩ := (show ∃ t, u = Value.str x t from ry); subst q; rfl
 have ha : argsOk "dict.pop" ⟨.ref a :: u :: more, []⟩ := by
  rcases hm with q | ⟨x, q⟩
  . subst q; exact PySem.F.args_dict_pop_2 _ _
  . subst q; exact PySem.F.args_dict_pop_3 _ _ _
 refine call_meetsIn PySem.F.slot_dict_pop dd.typeIs PySem.F.entry_dict_pop ha (meets_dict_pop_there (mixKind X.prog X.w) a (kV_is ry) more hm hp)
  ⟨vs, w', dd, by rw [<- rel.length]; exact z, hw, fun h' dd' hs => h w' _ ?_ rw'⟩
 have he : ∃ q, h'.get? a = some q := let ⟨q, _, _, hq, _⟩ := dd'; ⟨q, hq⟩
 exact d_write I (by rw [e]; exact True.intro) hs he (dk_new (Nat.le_trans (dropK_le kvs k) z) hd (rel.drop k) dd')
end
def NoSl (i : Expr) : Prop := ∀ ov iv, subscripted i false ov iv = operate [ov, iv] (getItem ov iv)
theorem subD_of {prog : Program} {w : World} {A : Around} {E : Value -> Shared -> Prop} {s : Shared} {env : Env} {value slice : Expr} {pos : Pos} {T id : String} {Q : Value -> Shared -> Prop}
 (hl : typeLookup (.type T) "__getitem__" = pure (some (.builtin id))) (hs : NoSl slice)
 (h : wpAny (model prog w) A (eval value env) (fun o s₁ => wpAny (model prog w) A (eval slice env) (fun i s₂ => s₂.TypeIs o T /\ wpAny (model prog w) A (getItem o i) Q E s₂) E s₁) E s) :
 wpAny (model prog w) A (eval (.Subscript value slice pos) env) Q E s := by
 refine Subscript_ (wpAny_mono h (fun o s₁ h₁ => wpAny_mono h₁ (fun i s₂ h₂ => ?_) fun _ _ x => x) fun _ _ x => x)
 obtain ⟨hT, h₂⟩ := h₂
 unfold subscriptTail
 refine wpAny_bind ?_
 rw [getitemInPython_of_ne hT.not_modules]
 refine wpAny_bind (wpAny_specialOf hT hl ?_)
 have fin : wpAny (model prog w) A (subscripted slice false o i) (fun r s₃ => wpAny (model prog w) A (letTemporaryGo value o r >>= fun _ => pure r) Q E s₃) E s₂ := by
  rw [hs o i]
  exact wpAny_operating (wpAny_mono h₂ (fun r s₃ h₃ => wpAny_bind (wpAny_letTemporaryGo (wpAny_pure h₃))) fun _ _ x => x)
 first
  | exact wpAny_pure (wpAny_bind fin)
  | exact wpAny_bind (wpAny_pure (wpAny_bind fin))
  | exact wpAny_bind fin
theorem dict_typeIs {X : Cx} {pins : List (Addr × Obj)} {σ : St} {H : Hp} {s : Shared} {a : Addr} {y : V} {o : Option V} (I : Inv X pins σ H s) (g : DGet H a y o) : s.TypeIs (.ref a) "dict" := by
 rcases g with ⟨kvs, k, e, _, _⟩ | ⟨kvs, k, b, e, _, _, _⟩
 . obtain ⟨_, _, vs, _, dd⟩ := dk_rd I.hok e
   exact dd.typeIs
 . obtain ⟨_, _, xs, _, dd⟩ := dt_rd I.hok e
   exact dd.typeIs
def tDGet (td ty : TE) : TE := fun σ H Q => td σ H fun x H1 => ty σ H1 fun y H2 => ∃ a v, x = .ref a /\ DGet H2 a y (some v) /\ Q v H2
def tDIn (ty td : TE) : TE := fun σ H Q => ty σ H fun y H1 => td σ H1 fun x H2 => ∃ a o, x = .ref a /\ DGet H2 a y o /\ Q (.bl o.isSome) H2
def tDNotIn (ty td : TE) : TE := fun σ H Q => ty σ H fun y H1 => td σ H1 fun x H2 => ∃ a o, x = .ref a /\ DGet H2 a y o /\ Q (.bl (!o.isSome)) H2
def sDPut (td ty tv : TE) : TS := fun D σ H => tv σ H fun v H1 => td σ H1 fun x H2 => ty σ H2 fun y H3 => ∃ a H4, x = .ref a /\ DPut H3 a y v H4 /\ D.nx σ H4
section
variable {X : Cx} {o i e value : Expr} {pos pos' tpos : Pos} {td ty tv : TE}
theorem pe_dget (hu : X.A.units + 1 < cLine) (ho : PE X o td) (hi : PE X i ty) (hs : NoSl i) : PE X (.Subscript o i pos) (tDGet td ty) := by
 intro pins s σ H Q I h
 refine subD_of PySem.F.slot_dict_getitem.lookup hs (thn (ho pins s σ H _ I h) fun u s1 ⟨x, H1, I1, rx, q1⟩ => thn (hi pins s1 σ H1 _ I1 q1) fun iv s2 ⟨y, H2, I2, ry, a, v, ex, g, q2⟩ => ?_)
 subst ex
 obtain rfl : u = Value.ref a := rx
 exact ⟨dict_typeIs I2 g, d_getItem hu I2 g ry fun w' s3 I3 rw' => ⟨v, H2, I3, rw', q2⟩⟩
theorem pc_din (hu : X.A.units + 1 < cLine) (hi : PE X i ty) (ho : PE X o td) : PC X .In i o (tDIn ty td) := by
 intro pins s σ H Q I h
 refine thn (hi pins s σ H _ I h) fun iv s1 ⟨y, H1, I1, ry, q1⟩ => thn (ho pins s1 σ H1 _ I1 q1) fun u s2 ⟨x, H2, I2, rx, a, ov, ex, g, q2⟩ => ?_
 subst ex
 obtain rfl : u = Value.ref a := rx
 exact d_in hu I2 g ry fun s3 I3 => ⟨.bl ov.isSome, H2, I3, rfl, q2⟩
theorem pc_dnotin (hu : X.A.units + 1 < cLine) (hi : PE X i ty) (ho : PE X o td) : PC X .NotIn i o (tDNotIn ty td) := by
 intro pins s σ H Q I h
 refine thn (hi pins s σ H _ I h) fun iv s1 ⟨y, H1, I1, ry, q1⟩ => thn (ho pins s1 σ H1 _ I1 q1) fun u s2 ⟨x, H2, I2, rx, a, ov, ex, g, q2⟩ => ?_
 subst ex
 obtain rfl : u = Value.ref a := rx
 exact d_notIn hu I2 g ry fun s3 I3 => ⟨.bl (!ov.isSome), H2, I3, rfl, q2⟩
theorem ps_dput (hu : X.A.units + 1 < cLine) (ho : PE X o td) (hi : PE X i ty) (hv : PE X value tv) (hs : swapsWith value (some (.Subscript o i pos')) pos.line X.env = pure false) :
 PS X (.Assign [.Subscript o i pos'] value pos) (sDPut td ty tv) := by
 intro pins s σ H D I h
 refine wpAny_Assign_Subscript (thn (hv pins s σ H _ I h) fun r s1 ⟨v, H1, I1, rv, q1⟩ => thn (ho pins s1 σ H1 _ I1 q1) fun u s2 ⟨x, H2, I2, rx, q2⟩ => thn (hi pins s2 σ H2 _ I2 q2) fun iv s3 ⟨y, H3, I3, ry, a, H4, ex, g, q3⟩ => ?_) hs
 subst ex
 obtain rfl : u = Value.ref a := rx
 exact d_setItem hu I3 g ry rv fun s4 I4 => ⟨σ, H4, I4, q3⟩
end
theorem dk_empty {P : Program} {w : World} {H : Hp} (h : Heap) (hb : sysModules < h.objs.size) : ObjOk P w H (h.push { cls := .type "dict", data := .dict #[] }) h.objs.size (.dK []) :=
 ⟨Nat.zero_le _, beq_eq_false_iff_ne.mpr (Ne.symm (Nat.ne_of_lt hb)), [], .nil, Heap.DictOf.new h⟩
def tDNewK : TE := fun _ H Q => ∀ p, H p = none -> Q (.ref p) (upd H p (.dK []))
section
variable {X : Cx} {pos : Pos}
theorem pe_dnewK : PE X (.Dict [] [] pos) tDNewK := fun pins s σ H Q I h =>
 wpAny_Dict_empty ⟨.ref s.heap.objs.size, _, I.laid (a := s.heap.objs.size) (o := .dK []) (t' := s.toks) (fun _ _ q => Heap.get?_push_of_some _ q) (Nat.le_refl _) (dk_empty s.heap I.big), rfl, h _ (I.hok.fresh (Nat.le_refl _))⟩
end
structure M1 (X : Cx) (o : Expr) (m : Str) (apos : Pos) (e : Expr) (cpos : Pos) : Prop where
 base : attributeBase o m X.env (eval o X.env) = eval o X.env
 few : ((backTo cpos (starEach [e] X.env)).all (fun x => !x.1) && (backToKw cpos (keywordEach [] X.env)).all (fun x => x.1.isSome)
  && decide (([e] : List Expr).length + ([] : List Keyword).length + (if ([] : List Keyword).isEmpty then 0 else 1) < 30)) = true
 line : (apos.endLine == cpos.line) = true
 trees : backTo cpos (starEach [e] X.env) = [(false, eval e X.env)]
structure M2 (X : Cx) (o : Expr) (m : Str) (apos : Pos) (e f : Expr) (cpos : Pos) : Prop where
 base : attributeBase o m X.env (eval o X.env) = eval o X.env
 few : ((backTo cpos (starEach [e, f] X.env)).all (fun x => !x.1) && (backToKw cpos (keywordEach [] X.env)).all (fun x => x.1.isSome)
  && decide (([e, f] : List Expr).length + ([] : List Keyword).length + (if ([] : List Keyword).isEmpty then 0 else 1) < 30)) = true
 line : (apos.endLine == cpos.line) = true
 trees : backTo cpos (starEach [e, f] X.env) = [(false, eval e X.env), (false, eval f X.env)]
section
variable {X : Cx} {pins : List (Addr × Obj)} {σ : St} {H : Hp} {s : Shared} {a : Addr} {y d : V} {u r : Value} {o : Option V} {A : Around} {E : Value -> Shared -> Prop}
end
section
variable {X : Cx} {o e f : Expr} {apos cpos : Pos} {td ty tx : TE}
end
section
variable {X : Cx} {pins : List (Addr × Obj)} {σ : St} {H : Hp} {s : Shared} {a : Addr} {kvs : List (Key × V)} {A : Around} {E : Value -> Shared -> Prop}
end
section
variable {X : Cx} {pins : List (Addr × Obj)} {σ : St} {H : Hp} {s : Shared} {a : Addr} {y : V} {u : Value} {A : Around} {E : Value -> Shared -> Prop}
end
end L2
namespace Att
open PySem PySem.W PySem.Calls PyProof.Rows
theorem ints_of_wellAll {P : Params} {h : Heap} : ∀ (ns : List Int) (vs : List Value), WellAll P h vs (ns.map WData.int) -> IntsAre vs ns := by
 intro ns
 induction ns with
 | nil =>
   intro vs w
   rw [List.map_nil] at w
   cases w
   exact .nil
 | cons n ns ih =>
   intro vs w
   rw [List.map_cons] at w
   cases w with
   | cons a b =>
     cases a
     exact .cons _ _ (ih _ b)
theorem script_of {l : OpenLaw} {n : Nat} (hn : l.most = some n) {P : Params} {h : Heap} {args : List WData} {vals : List Value}
 (hpre : l.row.toRowW.claim.pre args = true) (hwl : WellAll P h vals args) :
 ∃ a vs ns, vals = [Value.ref a] /\ args = [WData.list (ns.map WData.int)] /\ h.get? a = some { cls := .type "list", data := .seq vs.toArray } /\ IntsAre vs ns /\ ns.length <= n := by
 have hsh : WShape.hasAll [] args [.list .int] = true := (pre_splitW hpre).1
 have hc : l.pre.holds [] { args := args } = true := (pre_splitW hpre).2
 obtain ⟨d, r, rfl, h1, h2⟩ := hasAllW_cons hsh
 obtain rfl := hasAllW_nil h2
 obtain ⟨xs, rfl, h3⟩ := hasW_list h1
 obtain ⟨ns, rfl⟩ := items_int h3
 have hlen : ns.length <= n := by
  unfold OpenLaw.pre at hc
  have h4 : (WTm.not (.lt (.lit (.int (n : Int))) (.len (.arg 0)))).holds [] { args := [.list (ns.map .int)] } = true := by
   have h4 := (holds_andW hc).1
   rw [hn] at h4
   exact h4
  have h5 := condW_of h4 (w_not (w_lt w_lit (w_len_list (w_arg rfl))))
  rw [List.length_map] at h5
  refine Nat.le_of_not_lt fun q => ?_
  have q' : (n : Int) < ((ns.length : Nat) : Int) := by omega
  first
   | (rw [decide_eq_true q'] at h5; exact absurd h5 (by decide))
   | (simp at h5; omega)
 cases hwl with
 | cons w1 w2 =>
   cases w2
   cases w1 with
   | list ho hall => exact ⟨_, _, ns, rfl, rfl, ho, ints_of_wellAll ns _ hall, hlen⟩
theorem post_true (l : OpenLaw) (args : List WData) : l.row.toRowW.claim.post args (.bool true) args = true :=
 postW_of (r := l.row.toRowW) (X := (true == true))
  (show WShape.has [] (.bool true) .bool = true by first | rfl | decide | simp [WShape.has, WShape.arms, WShape.armsAll])
  (show (WTm.eq .res (.lit (.bool true))).value [] { args := args, res := some (.bool true), after := args } = some (.bool (true == true)) from w_eq_bool (w_res rfl) w_lit) rfl
theorem attach_call {l : OpenLaw} {n : Nat} {q : Program} {loose : List Str} {XP : (Str -> Option Value) -> Heap -> Prop} {YP : World -> Heap -> Prop} {d : DefRec}
 (hn : l.most = some n) (hdf : d.params.defaults = [])
 (call : ∀ (w : World) (s₀ s₁ : Shared) (mg mb : Str -> Option Value) (fa : Addr) (o : Obj) (pm cd doc : Value) (a : Addr) (vs : List Value) (ns : List Int),
  Ground q loose [] XP w s₀ mg mb s₁.heap -> YP w s₁.heap ->
  s₁.heap.get? fa = some o -> o.data = .func (docDef d.name d.params d.body d.scope pm cd doc) -> s₁.heap.CodeRec cd d.name -> mg d.name = some (.ref fa) ->
  s₁.heap.get? a = some { cls := .type "list", data := .seq vs.toArray } -> IntsAre vs ns -> ns.length <= n -> s₁.gens = #[] ->
  codeAny (model l.prog w) callerA (.call (.ref fa) ⟨[.ref a], []⟩) (fun r s' => r = .ok (.ret (.bool true)) /\ OldK s₁.heap s'.heap /\ s'.os = s₁.os /\ AllBare s'.gens) s₁) :
 WalkO q loose XP YP l.row.toRowW d [] (fun f vs => PySem.call f vs) := by
 intro w s₀ s₁ mg mb G Y fa o pm cd doc dV kV ho hd hcd hD hmg hg args vals as hpre hlay hrd hwl hlo
 obtain rfl : dV = .none := Dflts.none hD hdf
 obtain rfl : kV = .none := Dflts.noKw hD
 obtain ⟨a, vs, ns, rfl, rfl, hobj, hints, hlen⟩ := script_of hn hpre hwl
 refine enter_call (codeAny_mono (call w s₀ s₁ mg mb fa o pm cd doc a vs ns G Y ho (fd_plain hd) hcd hmg hobj hints hlen hg) fun r s' hq => ?_)
 obtain ⟨rfl, h2, h3, h4⟩ := hq
 exact ⟨.inl ⟨.bool true, .bool true, [], rfl, fun _ => rfl, .bool true, post_true l _, fun _ => ⟨List.Pairwise.nil, fun _ hm => (nomatch hm)⟩⟩, h2, h3, h4⟩
section
variable {prog : Program} {w : World} {A : Around} {E : Value -> Shared -> Prop} {s : Shared} {K : Frag}
end
end Att
namespace L2
open PySem PySem.Spec PyProof.Rows
theorem vals_ints : ∀ {vs : List Value} {ns : List Int}, IntsAre vs ns -> Vals (ns.map V.int) vs
 | _, _, .nil => .nil
 | _, _, .cons n t h => .cons ⟨t, rfl⟩ (vals_ints h)
def Only (H : Hp) : Prop := ∀ b, H b = none \/ ∃ o xs, H b = some (.frz o (.lst xs))
theorem law_call {P : Program} {w : World} {K : PySem.W.Frag} {mg mb : Str -> Option Value} {CX : CXT} {k : Nat} {fa a : Addr} {fd : FuncData} {x : Str} {sp : Sp} {s₁ : Shared} {vs : List Value} {ns : List Int}
 (KX : K.In s₁.heap) (hns : s₁.heap.Ns mainGlobals mg) (hb : s₁.heap.Ns builtinsNs mb) (hbb : ∀ x : Str, x ≠ "__name__" -> mb x = bootBuiltins x) (hlim : s₁.heap.NoLimit) (hg : s₁.gens = #[])
 (ha : s₁.heap.get? a = some { cls := .type "list", data := .seq vs.toArray }) (hi : IntsAre vs ns) (hl : ns.length <= sizeLine) (hr : Room k callerA)
 (F : ∀ base : Heap, K.In base -> base.Ns mainGlobals mg -> FnOk P w K mg base CX k fa fd [x] sp) (hbind : ∀ (s : Shared) (u : Value), BindsTo s fd ⟨[u], []⟩ [(x, u)])
 (hsp : ∀ H : Hp, Only H -> SqL K H a (ns.map V.int) -> sp [.ref a] H (fun v _ => v = .bl true) fun _ _ _ => False)
 (hCX : ∀ H e s', CX [] H s₁ (fun _ _ _ => False) e s' -> False) :
 codeAny (model P w) callerA (.call (.ref fa) ⟨[.ref a], []⟩) (fun r s' => r = .ok (.ret (.bool true)) /\ OldK s₁.heap s'.heap /\ s'.os = s₁.os /\ AllBare s'.gens) s₁ := by
 have rv := vals_ints hi
 have lenV := hi.length
 have core : ∀ H : Hp, Only H -> SqL K H a (ns.map V.int) -> HOk P w H s₁.heap -> (∀ b, H b ≠ none -> b = a) -> (H a ≠ none -> K.lookup a = none) ->
  codeAny (model P w) callerA (.call (.ref fa) ⟨[.ref a], []⟩) (fun r s' => r = .ok (.ret (.bool true)) /\ OldK s₁.heap s'.heap /\ s'.os = s₁.os /\ AllBare s'.gens) s₁ := by
  intro H hO hS hok hA hK
  have base_of : ∀ {b : Addr} {o : Obj}, s₁.heap.get? b = some o -> H b = none -> (hidT s₁.heap H).get? b = some o := fun e n => hidT_get e n
  have noA : ∀ {b : Addr} {o : Obj} {es : Array DictEntry} {ep : Nat}, s₁.heap.get? b = some o -> o.data = .dict es ep -> H b = none := fun {b o es ep} e d => by
   cases q : H b with
   | none => rfl
   | some u =>
     have e' : b = a := hA b (by rw [q]; simp)
     subst e'
     rw [ha] at e; cases e
     have d' : Data.seq vs.toArray _ = Data.dict es ep := d
     cases d'
  have nsK : ∀ {b : Addr} {m : Str -> Option Value}, s₁.heap.Ns b m -> (hidT s₁.heap H).Ns b m := fun {b m} ⟨o, es, ep, e, d, r⟩ => ⟨o, es, ep, base_of e (noA e d), d, r⟩
  have hKb : K.In (hidT s₁.heap H) := fun b o e => base_of (KX b o e) (by
   cases q : H b with
   | none => rfl
   | some u =>
     have e' : b = a := hA b (by rw [q]; simp)
     subst e'
     rw [hK (by rw [q]; simp)] at e; cases e)
  have hM : Mod K mg (hidT s₁.heap H) := ⟨hKb, nsK hns, ⟨mb, nsK hb, hbb⟩, let ⟨mc, h1, h2⟩ := hlim; ⟨mc, nsK h1, h2⟩⟩
  have e0 : Env0 P w K mg (hidT s₁.heap H) callerA [] s₁ H := ⟨rfl, hM, fun b o e => of_hidT e, Nat.le_of_eq (hidT_size _ _), trivial, fun b hb => absurd (show b ∈ ([] : List Addr) from hb) (by simp), hok, .of_eq hg⟩
  refine codeAny_mono ((F _ hKb (nsK hns)).run callerA [] s₁ H ⟨[.ref a], []⟩ [.ref a] [.ref a] _ _ hr e0 (hbind s₁ (.ref a)) (.cons rfl .nil) (hsp H hO hS)) fun r s' h => ?_
  cases r with
  | error e => exact (hCX H e s' h).elim
  | ok fl =>
    cases fl with
    | next => exact False.elim h
    | brk => exact False.elim h
    | cont => exact False.elim h
    | ret u =>
      obtain ⟨v, H', os, bare, un, hok', r', q⟩ := h
      have q' : v = .bl true := q
      subst q'
      obtain rfl : u = Value.bool true := r'
      refine ⟨rfl, OldK.of_keep fun b o e => ?_, os, bare⟩
      cases q : H b with
      | none => exact un.keep b o e q (by intro z; exact absurd (show b ∈ ([] : List Addr) from z) (by simp)) (by simp)
      | some u =>
        rcases hO b with z | ⟨ob, xs, z⟩
        . rw [q] at z; cases z
        . have z2 := un.frzs b ob _ z
          obtain ⟨e1, _⟩ := hok b _ z
          obtain ⟨e2, _⟩ := hok' b _ z2
          rw [e] at e1; cases e1
          exact e2
 cases hk : K.lookup a with
 | some o =>
   have e := KX a o hk
   rw [ha] at e
   cases e
   refine core (fun _ => none) (fun _ => .inl rfl) (.inr ⟨_, vs.toArray, _, hk, rfl, rfl, rfl, by rw [List.size_toArray, lenV]; exact hl, by simpa using rv⟩) (fun b u z => by have z' : (none : Option HO) = some u := z; cases z') (fun b z => absurd rfl z) fun z => absurd rfl z
 | none =>
   refine core (fun b => if b = a then some (.frz { cls := .type "list", data := .seq vs.toArray } (.lst (ns.map V.int))) else none) (fun b => ?_) (.inl (.inr ⟨{ cls := .type "list", data := .seq vs.toArray }, if_pos rfl⟩)) (fun b u z => ?_) (fun b z => ?_) fun _ => hk
   . by_cases hb : b = a
     . exact .inr ⟨_, _, if_pos hb⟩
     . exact .inl (if_neg hb)
   . by_cases hb : b = a
     . have z' := (if_pos hb).symm.trans z
       cases z'
       subst hb
       exact ⟨ha, by rw [List.length_map]; exact hl, vs, _, rv, ha⟩
     . have z' := (if_neg hb).symm.trans z
       cases z'
   . by_cases hb : b = a
     . exact hb
     . exact absurd (if_neg hb) z
abbrev KOf {K : PySem.W.Frag} {h : Heap} (_ : K.In h) : PySem.W.Frag := K
theorem walk_of {l : PySem.W.OpenLaw} {n k : Nat} {q : Program} {loose : List Str} {XP : (Str -> Option Value) -> Heap -> Prop} {YP : World -> Heap -> Prop} {d : DefRec} {K : Params -> PySem.W.Frag} {CX : World -> CXT} {sp : World -> Sp} {x : Str}
 (hn : l.most = some n) (hn2 : n <= sizeLine) (hdf : d.params.defaults = []) (hr : Room k callerA)
 (hY : ∀ (w : World) (h : Heap), YP w h -> (K w.params).In h)
 (F : ∀ (w : World) (mg : Str -> Option Value) (fa : Addr) (h : Heap), (K w.params).In h -> h.Ns mainGlobals mg -> mg d.name = some (.ref fa) ->
  ∃ fd : FuncData, (∀ (s : Shared) (u : Value), BindsTo s fd ⟨[u], []⟩ [(x, u)]) /\
    ∀ base : Heap, (K w.params).In base -> base.Ns mainGlobals mg -> FnOk l.prog w (K w.params) mg base (CX w) k fa fd [x] (sp w))
 (hsp : ∀ (w : World) (H : Hp) (a : Addr) (ns : List Int), ns.length <= n -> Only H -> SqL (K w.params) H a (ns.map V.int) -> sp w [.ref a] H (fun v _ => v = .bl true) fun _ _ _ => False)
 (hCX : ∀ (w : World) (H : Hp) (s : Shared) (e : Value) (s' : Shared), CX w [] H s (fun _ _ _ => False) e s' -> False) :
 PySem.W.WalkO q loose XP YP l.row.toRowW d [] (fun f vs => PySem.call f vs) := by
 refine Att.attach_call hn hdf fun w s₀ s₁ mg mb fa o pm cd doc a vs ns G Y ho hd hcd hmg hobj hints hlen hg => ?_
 have KX := hY w _ Y
 obtain ⟨fd, hb, hF⟩ := F w mg fa _ KX G.T.g hmg
 exact law_call KX G.T.g G.T.b G.T.builtins G.T.nolimit hg hobj hints (Nat.le_trans hlen hn2) hr hF hb (fun H hO hS => hsp w H a ns hlen hO hS) fun H e s' => hCX w H s₁ e s'
theorem walk_ofK {l : PySem.W.OpenLaw} {n k : Nat} {q : Program} {loose : List Str} {XP : (Str -> Option Value) -> Heap -> Prop} {YP : World -> Heap -> Prop} {d : DefRec} {K : Params -> PySem.W.Frag} {CX : CXT} {sp : PySem.W.Frag -> Sp} {x : Str}
 (hn : l.most = some n) (hn2 : n <= sizeLine) (hdf : d.params.defaults = []) (hr : Room k callerA)
 (hY : ∀ (w : World) (h : Heap), YP w h -> (K w.params).In h)
 (F : ∀ (w : World) (mg : Str -> Option Value) (fa : Addr) (h : Heap), (K w.params).In h -> h.Ns mainGlobals mg -> mg d.name = some (.ref fa) ->
  ∃ fd : FuncData, (∀ (s : Shared) (u : Value), BindsTo s fd ⟨[u], []⟩ [(x, u)]) /\
    ∀ base : Heap, (K w.params).In base -> base.Ns mainGlobals mg -> FnOk l.prog w (K w.params) mg base CX k fa fd [x] (sp (K w.params)))
 (hsp : ∀ (K : PySem.W.Frag) (H : Hp) (a : Addr) (ns : List Int), ns.length <= n -> Only H -> SqL K H a (ns.map V.int) -> sp K [.ref a] H (fun v _ => v = .bl true) fun _ _ _ => False)
 (hCX : ∀ (H : Hp) (s : Shared) (e : Value) (s' : Shared), CX [] H s (fun _ _ _ => False) e s' -> False) :
 PySem.W.WalkO q loose XP YP l.row.toRowW d [] (fun f vs => PySem.call f vs) :=
 walk_of (K := K) (CX := fun _ => CX) (sp := fun w => sp (K w.params)) hn hn2 hdf hr hY F (fun w H a ns h1 h2 h3 => hsp (K w.params) H a ns h1 h2 h3) fun _ H s e s' => hCX H s e s'
def inClass (s : Stmt) (j : Nat) : Stmt := match s with
 | .ClassDef _ _ _ body _ _ _ _ _ _ _ => body.getD j (.Pass ⟨0, 0, 0, 0⟩)
 | _ => .Pass ⟨0, 0, 0, 0⟩
def defArgs (s : Stmt) : Arguments := match s with
 | .FunctionDef _ a _ _ _ _ _ _ _ _ => a
 | _ => { posonlyargs := [], args := [], vararg := none, kwonlyargs := [], kw_defaults := [], kwarg := none, defaults := [] }
def defBody (s : Stmt) : List Stmt := match s with
 | .FunctionDef _ _ b _ _ _ _ _ _ _ => b
 | _ => []
def defScope (s : Stmt) : Scope := match s with
 | .FunctionDef _ _ _ _ _ _ sc _ _ _ => sc
 | _ => { kind := .function, names := [], isGenerator := false, isCoroutine := false }
abbrev CX0 : CXT := fun _ _ _ _ _ _ => False
abbrev E0 : XK := fun _ _ _ => False
theorem pass0 {X : Cx} : Passes CX0 X E0 := fun _ _ _ _ _ _ _ h => h.elim
structure Fun (K : PySem.W.Frag) (x qual : Str) (st : Stmt) (f : Addr) (fd : FuncData) : Prop where
 ex : ∃ (oc : Value) (od : Option Addr) (kV doc pm : Value) (an : Option Addr) (cdv ct : Value) (osl : Array (Option Value)),
  fd = PySem.W.fnOf x qual (defArgs st) (defBody st) (defScope st) .none kV doc pm an cdv ct /\ K.lookup f = some ⟨oc, od, .func fd, osl⟩ /\ PySem.W.codeIn K cdv qual = true
 kp : PySem.W.keepIn K (.ref f) = true
section
variable {P : Program} {w : World} {K : PySem.W.Frag} {mg : Str -> Option Value} {base : Heap}
end
theorem hu_of {A : Around} {k : Nat} (hr : Room k A) : A.units + 1 < cLine := Nat.lt_of_le_of_lt (Nat.add_le_add_left (by decide : 1 <= 64) _) hr.units
section
variable {X : Cx}
theorem pv (i : Nat) {x : Str} {pos : Pos} (hN : X.N[i]? = some x := by rfl) (hv : Vis X.env.scope x := by first | exact Or.inl rfl | exact Or.inr (Or.inl rfl) | exact Or.inr (Or.inr rfl)) (hd : (x == ("__debug__" : Str)) = false := by decide)
 (hcd : (x == ("__classdict__" : Str)) = false := by decide) : PE X (.Name x pos) (tVar i) := pe_var hN hv hd hcd
end
theorem iteF {A B : Prop} (h : B) : if false = true then A else B := by
 rw [if_neg Bool.false_ne_true]
 exact h
theorem iteT {A B : Prop} (h : A) : if true = true then A else B := by
 rw [if_pos rfl]
 exact h
def Same (H H' : Hp) : Prop := ∀ b o, H b = some o -> H' b = some o
theorem Same.refl (H : Hp) : Same H H := fun _ _ h => h
theorem Same.trans {H H1 H2 : Hp} (a : Same H H1) (b : Same H1 H2) : Same H H2 := fun c o h => b c o (a c o h)
theorem Same.seq {K : PySem.W.Frag} {H H' : Hp} {a : Addr} {xs : List V} (e : Same H H') (h : SqL K H a xs) : SqL K H' a xs := by
 rcases h with (h | ⟨o, h⟩) | h
 . exact .inl (.inl (e _ _ h))
 . exact .inl (.inr ⟨o, e _ _ h⟩)
 . exact .inr h
section
variable {κ : Type} [DecidableEq κ]
end
section
variable {X : Cx}
def CMulB (i j : Int) : Prop := i.natAbs < 2 ^ 2000 /\ j.natAbs < 2 ^ 2000
theorem CMulB.ok {i j : Int} (h : CMulB i j) : IntMulOk i j := by
 have h1 : Builtin.Int.intBits i <= 2000 := PyProof.Rows.intBits_le h.1
 have h2 : Builtin.Int.intBits j <= 2000 := PyProof.Rows.intBits_le h.2
 have h3 : Builtin.Int.intTooBig ((Builtin.Int.intBits i + Builtin.Int.intBits j : Nat) : Int) = false := by
  unfold Builtin.Int.intTooBig
  have : (bitsLine : Nat) = 134217728 := rfl
  refine decide_eq_false ?_
  omega
 unfold IntMulOk
 have h4 : Builtin.Int.intTooBig (Builtin.Int.intBits i + Builtin.Int.intBits j) = false := by
  have e : ((Builtin.Int.intBits i : Int) + (Builtin.Int.intBits j : Int)) = ((Builtin.Int.intBits i + Builtin.Int.intBits j : Nat) : Int) := by omega
  rw [e]; exact h3
 rw [h4]
 simp
theorem op_mulB : OpR X (binaryOp .Mult) (rI CMulB fun i j => .int (i * j)) := opI fun _ _ _ _ _ _ _ hc q => mul_int q hc.ok
def CDivB (_ j : Int) : Prop := 0 < j /\ j.natAbs < 2 ^ 2000
theorem op_fdivB : OpR X (binaryOp .FloorDiv) (rI CDivB fun i j => .int (i / j)) := opI fun i j _ _ _ _ _ hc q => by
 have e : i.fdiv j = i / j := Int.fdiv_eq_ediv_of_nonneg _ (Int.le_of_lt hc.1)
 have hl : j.natAbs.log2 < 9000 := by
  have h0 : j.natAbs ≠ 0 := by have := hc.1; omega
  have h2 : j.natAbs.log2 < 2000 := (Nat.log2_lt h0).mpr hc.2
  omega
 refine floordiv_int (by have := hc.1; omega) ?_ (.inl (PyProof.noPylong_of_log2 hl))
 rw [e]; exact q
inductive ClsV : V -> Value -> Prop where
 | ty (n : String) : ClsV (.ty n) (.type n)
 | ref (C : Addr) : ClsV (.ref C) (.ref C)
def rIsi (K : PySem.W.Frag) : List V -> Hp -> VK -> Prop := fun xs H Q => ∃ x c cv t b, xs = [x, c] /\ ClsV c cv /\ TyOf K H x t /\ PySem.W.kitOne K t cv = some b /\ Q (.bl b) H
theorem call_isi : CallR X (.builtin "isinstance") (rIsi X.K) := by
 intro pins s σ H xs us Q I r h
 obtain ⟨x, c, cv, t, b, rfl, hc, ty, e, q⟩ := h
 obtain ⟨u, w', rfl, r1, r2⟩ := vals2 r
 have ew : w' = cv := by cases hc <;> exact r2
 subst ew
 exact isinst_ok I r1 ty e fun tk => ⟨.bl b, H, I.tok tk, rfl, q⟩
structure BaseM (K : PySem.W.Frag) (C : Addr) (m : Str) (f : Addr) : Prop where
 ga : PySem.W.specialIn K (.ref C) "__getattribute__" = some (some (.builtin "type.__getattribute__"))
 rd : PySem.W.readsIn K C (.type "type") = true
 fd : PySem.W.findCls K (.ref C) (.type "type") m = some (.val (.ref f))
 kp : PySem.W.keepIn K (.ref f) = true
theorem pe_base {CX : CXT} {k : Nat} {f C : Addr} {fd : FuncData} {ps : List Str} {sp : Sp} {dvs : List V} {ds : List Value} {E : XK} {x m : Str} {p pos apos : Pos} {e : Expr} {es : List Expr} {t : TA} {pl : Sem Bool}
 (hg : Gl X x) (hm : X.mg x = some (.ref C)) (B : BaseM X.K C m f) (F : FnOk X.prog X.w X.K X.mg X.base CX k f fd ps sp) (hr : Room k X.A) (hb : Binds X.K fd ps ds) (hd : Vals dvs ds) (hx : Passes CX X E) (ha : PA X (e :: es) t)
 (hdb : (x == ("__debug__" : Str)) = false := by decide)
 (hst : starEach (e :: es) X.env = (false, eval e X.env) :: starEach es X.env := by rfl) (hpl : (backTo pos (starEach es X.env)).any (·.1) = false := by rfl)
 (ht : eval (.Call (.Attribute (.Name x p) m apos) (e :: es) [] pos) X.env = (do
  let ov <- eval (.Name x p) X.env
  standAt apos.atName
  let (f, first) <- holding [ov] (getMethod ov m pl)
  callWith pos f first (backTo pos (starEach (e :: es) X.env)) (backToKw pos (keywordEach [] X.env))) := by rfl) :
 PE X (.Call (.Attribute (.Name x p) m apos) (e :: es) [] pos) (tCall sp dvs E t) := by
 intro pins s σ H Q I h
 refine PySem.W.methodCall_KW (pl := pl) (ld_glob I hg hm ?_ hdb) ht
 refine PySem.W.method_cls I.kIn B.ga ?_
 refine PySem.W.cls_value I.kIn B.rd B.fd rfl ?_
 have I' : Inv X pins σ H { s with toks := s.toks + 1 } := I.tok _
 refine PySem.W.callWith_K (first := []) (h₀ := X.base) I.ok.mod.kin B.kp (thn (ha pos pins _ σ H _ I' h) fun us s2 ⟨vs, H2, I2, r, q2⟩ => ⟨I2.kIn, ?_⟩) hst hpl
 exact run_fn F hr hb hd hx I2 r q2
end
mutual
inductive HasD (K : PySem.W.Frag) (H : Hp) : V -> PyData -> Prop where
 | non : HasD K H .non .none
 | bl (b : Bool) : HasD K H (.bl b) (.bool b)
 | int (i : Int) : HasD K H (.int i) (.int i)
 | str (x : Str) : HasD K H (.str x) (.str x)
 | tup {a : Addr} {xs : List V} {ds : List PyData} (h : SqT K H a xs) (r : HasDs K H xs ds) : HasD K H (.ref a) (.tuple ds)
 | lst {a : Addr} {xs : List V} {ds : List PyData} (h : SqL K H a xs) (r : HasDs K H xs ds) : HasD K H (.ref a) (.list ds)
inductive HasDs (K : PySem.W.Frag) (H : Hp) : List V -> List PyData -> Prop where
 | nil : HasDs K H [] []
 | cons {x : V} {d : PyData} {xs : List V} {ds : List PyData} (h : HasD K H x d) (r : HasDs K H xs ds) : HasDs K H (x :: xs) (d :: ds)
end
theorem SqT.keeps {K : PySem.W.Frag} {H H' : Hp} {a : Addr} {xs : List V} (e : Same H H') (h : SqT K H a xs) : SqT K H' a xs := by
 rcases h with (h | ⟨o, h⟩) | h
 . exact .inl (.inl (e _ _ h))
 . exact .inl (.inr ⟨o, e _ _ h⟩)
 . exact .inr h
mutual
theorem HasD.keeps {K : PySem.W.Frag} {H H' : Hp} (e : Same H H') : ∀ {v : V} {d : PyData}, HasD K H v d -> HasD K H' v d
 | _, _, .non => .non
 | _, _, .bl b => .bl b
 | _, _, .int i => .int i
 | _, _, .str x => .str x
 | _, _, .tup h r => .tup (SqT.keeps e h) (HasDs.keeps e r)
 | _, _, .lst h r => .lst (Same.seq e h) (HasDs.keeps e r)
theorem HasDs.keeps {K : PySem.W.Frag} {H H' : Hp} (e : Same H H') : ∀ {vs : List V} {ds : List PyData}, HasDs K H vs ds -> HasDs K H' vs ds
 | _, _, .nil => .nil
 | _, _, .cons h r => .cons (HasD.keeps e h) (HasDs.keeps e r)
end
section
variable {X : Cx} {pins : List (Addr × Obj)} {σ : St} {H : Hp} {s : Shared}
mutual
theorem HasD.reads (I : Inv X pins σ H s) : ∀ {v : V} {d : PyData} {u : Value}, HasD X.K H v d -> RelV v u -> ∃ as, Reads s.heap u d as
 | _, _, _, .non, r => by cases r; exact ⟨_, .none⟩
 | _, _, _, .bl b, r => by cases r; exact ⟨_, .bool b⟩
 | _, _, _, .int i, r => by obtain ⟨t, rfl⟩ := r; exact ⟨_, .int i t⟩
 | _, _, _, .str x, r => by obtain ⟨t, rfl⟩ := r; exact ⟨_, .str x t⟩
 | _, _, _, .tup h q, r => by
   cases r
   obtain ⟨its, rv, ⟨o, h1, h2, n, h3⟩, _⟩ := I.tuple h
   obtain ⟨as, ra⟩ := HasDs.reads I q rv
   exact ⟨_, .tuple h1 h2 h3 (by simpa using ra)⟩
 | _, _, _, .lst h q, r => by
   cases r
   obtain ⟨its, rv, ⟨o, n, h1, h2, _, h3⟩, _⟩ := I.list h
   obtain ⟨as, ra⟩ := HasDs.reads I q rv
   exact ⟨_, .list h1 h2 h3 (by simpa using ra)⟩
theorem HasDs.reads (I : Inv X pins σ H s) : ∀ {vs : List V} {ds : List PyData} {us : List Value}, HasDs X.K H vs ds -> Vals vs us -> ∃ as, ReadsAll s.heap us ds as
 | _, _, _, .nil, r => by cases r; exact ⟨_, .nil⟩
 | _, _, _, .cons h q, r => by
   cases r with
   | cons r1 r2 =>
     obtain ⟨as, ra⟩ := HasD.reads I h r1
     obtain ⟨bs, rb⟩ := HasDs.reads I q r2
     exact ⟨_, .cons ra rb⟩
end
end
section
variable {X : Cx}
def rEqD (K : PySem.W.Frag) (f : Bool -> Bool) : R2 := fun x y H Q => ∃ d e, HasD K H x d /\ HasD K H y e /\ d.canLay0 = true /\ e.canLay0 = true /\ d.depth <= 8 /\ Q (.bl (f (PyData.eqv d e))) H
theorem op_eqD (hu : X.A.units + 8 < cLine) : OpR X (compareOp .Eq) (rEqD X.K id) := by
 intro pins s σ H x y v u Q I rx ry h
 obtain ⟨d, e, hd, he, c1, c2, hn, q⟩ := h
 obtain ⟨as, ra⟩ := hd.reads I rx
 obtain ⟨bs, rb⟩ := he.reads I ry
 exact SeqAt.compareEq_reads ra rb c1 c2 (by have := Nat.min_le_left d.depth e.depth; omega) ⟨.bl _, H, I, rfl, q⟩
theorem op_neD (hu : X.A.units + 8 < cLine) : OpR X (compareOp .NotEq) (rEqD X.K not) := by
 intro pins s σ H x y v u Q I rx ry h
 obtain ⟨d, e, hd, he, c1, c2, hn, q⟩ := h
 obtain ⟨as, ra⟩ := hd.reads I rx
 obtain ⟨bs, rb⟩ := he.reads I ry
 exact SeqAt.compareNe_reads ra rb c1 c2 (by have := Nat.min_le_left d.depth e.depth; omega) ⟨.bl _, H, I, rfl, q⟩
end
structure Cal (P : Program) (w : World) (K : PySem.W.Frag) (mg : Str -> Option Value) (base : Heap) (k : Nat) (f : Addr) (ps : List Str) (dvs : List V) (sp : Sp) : Prop where
 ex : ∃ (fd : FuncData) (ds : List Value), FnOk P w K mg base CX0 k f fd ps sp /\ Binds K fd ps ds /\ Vals dvs ds
section
variable {X : Cx} {k : Nat} {f C : Addr} {ps : List Str} {sp : Sp} {dvs : List V} {x m : Str} {p pos apos : Pos} {e o : Expr} {es : List Expr} {ta : TE} {t : TA}
theorem pc_call (c : Cal X.prog X.w X.K X.mg X.base k f ps dvs sp) (hr : Room k X.A) (hg : Gl X x) (hm : X.mg x = some (.ref f)) (hk : PySem.W.keepIn X.K (.ref f) = true)
 (ha : PA X (e :: es) t) (hdb : (x == ("__debug__" : Str)) = false := by decide) (he : starEach (e :: es) X.env = (false, eval e X.env) :: starEach es X.env := by rfl) (hpl : (backTo pos (starEach es X.env)).any (·.1) = false := by rfl) :
 PE X (.Call (.Name x p) (e :: es) [] pos) (tCall sp dvs E0 t) := by
 obtain ⟨fd, ds, F, hb, hd⟩ := c.ex
 exact pe_call F hr hg hm hk hb hd pass0 ha hdb he hpl
theorem pc_meth {pl : Sem Bool} (he : PE X o ta) (c : Cls X.K C) (hm : Meth X.K C m f) (F : Cal X.prog X.w X.K X.mg X.base k f ps dvs sp) (hr : Room k X.A) (ha : PA X (e :: es) t)
 (hst : starEach (e :: es) X.env = (false, eval e X.env) :: starEach es X.env := by rfl) (hpl : (backTo pos (starEach es X.env)).any (·.1) = false := by rfl)
 (ht : eval (.Call (.Attribute o m apos) (e :: es) [] pos) X.env = (do
  let ov <- eval o X.env
  standAt apos.atName
  let (f, first) <- holding [ov] (getMethod ov m pl)
  callWith pos f first (backTo pos (starEach (e :: es) X.env)) (backToKw pos (keywordEach [] X.env))) := by rfl) :
 PE X (.Call (.Attribute o m apos) (e :: es) [] pos) (tMeth C m sp dvs E0 ta t) := by
 obtain ⟨fd, ds, F, hb, hd⟩ := F.ex
 exact pe_meth he c hm F hr hb hd pass0 ha hst hpl ht
theorem pc_meth0 {pl : Sem Bool} (he : PE X o ta) (c : Cls X.K C) (hm : Meth X.K C m f) (F : Cal X.prog X.w X.K X.mg X.base k f ps dvs sp) (hr : Room k X.A)
 (ht : eval (.Call (.Attribute o m apos) [] [] pos) X.env = (do
  let ov <- eval o X.env
  standAt apos.atName
  let (f, first) <- holding [ov] (getMethod ov m pl)
  callWith pos f first (backTo pos (starEach [] X.env)) (backToKw pos (keywordEach [] X.env))) := by rfl) :
 PE X (.Call (.Attribute o m apos) [] [] pos) (tMeth C m sp dvs E0 ta tNil) := by
 obtain ⟨fd, ds, F, hb, hd⟩ := F.ex
 exact pe_meth0 he c hm F hr hb hd pass0 ht
theorem pc_make (M : Mk X.K C f) (F : Cal X.prog X.w X.K X.mg X.base k f ps dvs sp) (hr : Room (k + 1) X.A) (hg : Gl X x) (hm : X.mg x = some (.ref C))
 (ha : PA X (e :: es) t) (hdb : (x == ("__debug__" : Str)) = false := by decide) (he : starEach (e :: es) X.env = (false, eval e X.env) :: starEach es X.env := by rfl) (hpl : (backTo pos (starEach es X.env)).any (·.1) = false := by rfl) :
 PE X (.Call (.Name x p) (e :: es) [] pos) (tMake C sp dvs E0 t) := by
 obtain ⟨fd, ds, F, hb, hd⟩ := F.ex
 exact pe_make M F hr hg hm hb hd pass0 ha hdb he hpl
theorem pc_base {pl : Sem Bool} (hg : Gl X x) (hm : X.mg x = some (.ref C)) (B : BaseM X.K C m f) (F : Cal X.prog X.w X.K X.mg X.base k f ps dvs sp) (hr : Room k X.A) (ha : PA X (e :: es) t)
 (hdb : (x == ("__debug__" : Str)) = false := by decide)
 (hst : starEach (e :: es) X.env = (false, eval e X.env) :: starEach es X.env := by rfl) (hpl : (backTo pos (starEach es X.env)).any (·.1) = false := by rfl)
 (ht : eval (.Call (.Attribute (.Name x p) m apos) (e :: es) [] pos) X.env = (do
  let ov <- eval (.Name x p) X.env
  standAt apos.atName
  let (f, first) <- holding [ov] (getMethod ov m pl)
  callWith pos f first (backTo pos (starEach (e :: es) X.env)) (backToKw pos (keywordEach [] X.env))) := by rfl) :
 PE X (.Call (.Attribute (.Name x p) m apos) (e :: es) [] pos) (tCall sp dvs E0 t) := by
 obtain ⟨fd, ds, F, hb, hd⟩ := F.ex
 exact pe_base hg hm B F hr hb hd pass0 ha hdb hst hpl ht
end
structure FunD (K : PySem.W.Frag) (x qual : Str) (st : Stmt) (f : Addr) (dV : Value) (fd : FuncData) : Prop where
 ex : ∃ (oc : Value) (od : Option Addr) (kV doc pm : Value) (an : Option Addr) (cdv ct : Value) (osl : Array (Option Value)),
  fd = PySem.W.fnOf x qual (defArgs st) (defBody st) (defScope st) dV kV doc pm an cdv ct /\ K.lookup f = some ⟨oc, od, .func fd, osl⟩ /\ PySem.W.codeIn K cdv qual = true
theorem funD_mk {K : PySem.W.Frag} {x qual : Str} {st : Stmt} {f : Addr} {oc : Value} {od an : Option Addr} {osl : Array (Option Value)} {dV kV doc pm cdv ct : Value} (l : K.lookup f = some ⟨oc, od, .func (PySem.W.fnOf x qual (defArgs st) (defBody st) (defScope st) dV kV doc pm an cdv ct), osl⟩)
 (c : PySem.W.codeIn K cdv qual = true) : FunD K x qual st f dV (PySem.W.fnOf x qual (defArgs st) (defBody st) (defScope st) dV kV doc pm an cdv ct) := ⟨⟨oc, od, kV, doc, pm, an, cdv, ct, osl, rfl, l, c⟩⟩
section
variable {P : Program} {w : World} {K : PySem.W.Frag} {mg : Str -> Option Value} {base : Heap}
theorem FunD.ok {x qual : Str} {st : Stmt} {f : Addr} {dV : Value} {fd : FuncData} {N ps : List Str} {k : Nat} {sp : Sp} (F : FunD K x qual st f dV fd) (S : FnScope N ps (defScope st)) (len : ∀ vs H Q E, sp vs H Q E -> vs.length = ps.length)
 (hbody : ∀ (cdv : Value) (A : Around) (outer : List Env) (s : Shared) (H : Hp) (vs : List V) (Q : VK) (E : XK), Room k (A.deeper (envOfC qual (defScope st) s.heap.objs.size f cdv)) -> sp vs H Q E ->
  ∃ t, PSs (cxOf CX0 P w K mg base N qual (defScope st) f cdv A outer s H E).nox (defBody st) t /\ t { nx := fun _ H' => Q .non H', rt := Q } (start N vs) H) : FnOk P w K mg base CX0 (k + 1) f fd ps sp := by
 obtain ⟨oc, od, kV, doc, pm, an, cdv, ct, osl, rfl, lk, hcd⟩ := F.ex
 refine fn_of lk hcd S len fun A outer s H vs Q E hr hsp => ?_
 obtain ⟨t, h, q⟩ := hbody cdv A outer s H vs Q E hr hsp
 exact ⟨t, h.nox, q⟩
theorem FunD.binds {x qual : Str} {st : Stmt} {f : Addr} {dV : Value} {fd : FuncData} {ps : List Str} {ds : List Value} (F : FunD K x qual st f dV fd)
 (h : ∀ (kV doc pm : Value) (an : Option Addr) (cdv ct : Value), Binds K (PySem.W.fnOf x qual (defArgs st) (defBody st) (defScope st) dV kV doc pm an cdv ct) ps ds) : Binds K fd ps ds := by
 obtain ⟨oc, od, kV, doc, pm, an, cdv, ct, osl, rfl, lk, hcd⟩ := F.ex
 exact h kV doc pm an cdv ct
end
structure DefT (K : PySem.W.Frag) (T : Addr) (items : Array Value) : Prop where
 ex : ∃ (o : Obj) (n : Nat), K.lookup T = some o /\ o.data = .seq items n
structure TyCls (K : PySem.W.Frag) (C : Addr) : Prop where
 ha : PySem.W.findIn K (.ref C) "__class__" = some (some (.builtin "object.__class__"))
 hn : PySem.W.specialIn K (.builtin "object.__class__") "__get__" = some (some (.builtin "getset_descriptor.__get__"))
 ht : PySem.W.takesIn K (.builtin "object.__class__") = some true
 hm : PySem.W.mroIn K C (.type "object") = some true
section
variable {σ : St} {H : Hp} {Q : VK} {D : Ends} {K : PySem.W.Frag}
theorem r_next (h : D.nx σ H) : tNext D σ H := h
theorem r_ret {te : TE} (h : te σ H D.rt) : tRet te D σ H := h
theorem r_drop {te : TE} (h : te σ H fun _ H1 => D.nx σ H1) : tDrop te D σ H := h
theorem r_ifS {c : TT} {t u : TS} (h : c σ H fun b H1 => if b = true then t D σ H1 else u D σ H1) : tIfS c t u D σ H := h
theorem r_asg {te : TE} {i : Nat} (h : te σ H fun x H1 => D.nx (σ.set i (some x)) H1) : tAsg te (gName i) D σ H := h
theorem r_var {i : Nat} {v : V} (e : σ[i]? = some (some v)) (h : Q v H) : tVar i σ H Q := ⟨v, e, h⟩
theorem r_c {v : V} (h : Q v H) : tC v σ H Q := h
theorem r_op {r : R2} {ta tb : TE} (h : ta σ H fun x H1 => tb σ H1 fun y H2 => r x y H2 Q) : tOp r ta tb σ H Q := h
theorem r_un {r : V -> Hp -> VK -> Prop} {ta : TE} (h : ta σ H fun x H1 => r x H1 Q) : tUn r ta σ H Q := h
theorem r_i0 {g : Int -> Int -> V} {i j : Int} (h : Q (g i j) H) : rI0 g (.int i) (.int j) H Q := ⟨i, j, rfl, rfl, h⟩
theorem r_i {C : Int -> Int -> Prop} {g : Int -> Int -> V} {i j : Int} (c : C i j) (h : Q (g i j) H) : rI C g (.int i) (.int j) H Q := ⟨i, j, rfl, rfl, c, h⟩
theorem r_u {g : Int -> V} {i : Int} (h : Q (g i) H) : rU g (.int i) H Q := ⟨i, rfl, h⟩
theorem r_test {t : TE} {Q : Bool -> Hp -> Prop} (h : t σ H fun x H' => ∃ k, x = .bl k /\ Q k H') : tTest t σ H Q := h
theorem r_and {t u : TT} {Q : Bool -> Hp -> Prop} (h : t σ H fun c H1 => if c = true then u σ H1 Q else Q false H1) : tAnd t u σ H Q := h
theorem r_or {t u : TT} {Q : Bool -> Hp -> Prop} (h : t σ H fun c H1 => if c = true then Q true H1 else u σ H1 Q) : tOr t u σ H Q := h
theorem r_not {t : TT} {Q : Bool -> Hp -> Prop} (h : t σ H fun c H1 => Q (!c) H1) : tNot t σ H Q := h
theorem r_andV {ta tb : TE} (h : ta σ H fun x H1 => ∃ c, x = .bl c /\ if c = true then tb σ H1 Q else Q (.bl false) H1) : tAndV ta tb σ H Q := h
theorem r_notV {ta : TE} (h : ta σ H fun x H1 => ∃ c, x = .bl c /\ Q (.bl (!c)) H1) : tNotV ta σ H Q := h
theorem r_bl {b : Bool} {R : Bool -> Prop} (h : R b) : ∃ k, V.bl b = .bl k /\ R k := ⟨b, rfl, h⟩
theorem r_nil {Q : List V -> Hp -> Prop} (h : Q [] H) : tNil σ H Q := h
theorem r_cons {ta : TE} {tr : TA} {Q : List V -> Hp -> Prop} (h : ta σ H fun x H1 => tr σ H1 fun xs H2 => Q (x :: xs) H2) : tCons ta tr σ H Q := h
theorem r_cb {r : List V -> Hp -> VK -> Prop} {t : TA} (h : t σ H fun vs H1 => r vs H1 Q) : tCB r t σ H Q := h
theorem r_fld {ta : TE} {f : Str} (h : ta σ H fun x H1 => ∃ a C dx fs v, x = .ref a /\ H1 a = some (.ins C dx fs) /\ Cls K C /\ NoAttr K C f /\ fs.lookup f = some v /\ Q v H1) : tFld K ta f σ H Q := h
theorem if_true' {A B : Prop} (h : A) : if true = true then A else B := by rw [if_pos rfl]; exact h
theorem if_false' {A B : Prop} (h : B) : if false = true then A else B := by rw [if_neg Bool.false_ne_true]; exact h
end
section
variable {X : Cx} {e : Expr} {es : List Expr}
theorem PE.weak {t u : TE} (h1 : PE X e t) (h : ∀ σ H Q, u σ H Q -> t σ H Q) : PE X e u := fun pins s σ H Q I q => h1 pins s σ H Q I (h σ H Q q)
def mA (t : TA) : TA := fun σ H Q => ∃ Q' : List V -> Hp -> Prop, t σ H Q' /\ ∀ v H', Q' v H' -> Q v H'
theorem PA.m {t : TA} (h : PA X es t) : PA X es (mA t) := fun pos pins s σ H Q I ⟨Q', q, m⟩ => thn (h pos pins s σ H Q' I q) fun _ _ ⟨v, H', I', r, z⟩ => ⟨v, H', I', r, m v H' z⟩
end
def keyD : Key -> PyData
 | .inl i => .int i
 | .inr x => .str x
mutual
inductive Dv (H : Hp) : V -> PyData -> Prop where
 | non : Dv H .non .none
 | bl (b : Bool) : Dv H (.bl b) (.bool b)
 | int (i : Int) : Dv H (.int i) (.int i)
 | str (x : Str) : Dv H (.str x) (.str x)
 | tup {a : Addr} {xs : List V} {ds : List PyData} (h : H a = some (.tup xs)) (r : Dvs H xs ds) : Dv H (.ref a) (.tuple ds)
 | lst {a : Addr} {xs : List V} {ds : List PyData} (h : Rd H a (.lst xs)) (r : Dvs H xs ds) : Dv H (.ref a) (.list ds)
 | dct {a : Addr} {kvs : List (Key × V)} {ds : List (PyData × PyData)} (h : H a = some (.dK kvs)) (r : Dks H kvs ds) : Dv H (.ref a) (.dict ds)
inductive Dks (H : Hp) : List (Key × V) -> List (PyData × PyData) -> Prop where
 | nil : Dks H [] []
 | cons {k : Key} {x : V} {d : PyData} {xs : List (Key × V)} {ds : List (PyData × PyData)} (h : Dv H x d) (r : Dks H xs ds) : Dks H ((k, x) :: xs) ((keyD k, d) :: ds)
inductive Dvs (H : Hp) : List V -> List PyData -> Prop where
 | nil : Dvs H [] []
 | cons {x : V} {d : PyData} {xs : List V} {ds : List PyData} (h : Dv H x d) (r : Dvs H xs ds) : Dvs H (x :: xs) (d :: ds)
end
mutual
theorem Dv.has {K : PySem.W.Frag} {H : Hp} : ∀ {v : V} {d : PyData}, Dv H v d -> d.canLay0 = true -> HasD K H v d
 | _, _, .non, _ => .non
 | _, _, .bl b, _ => .bl b
 | _, _, .int i, _ => .int i
 | _, _, .str x, _ => .str x
 | _, _, .tup h r, c => .tup (.of h) (Dvs.has r (by simpa [PyData.canLay0] using c))
 | _, _, .lst h r, c => .lst (.inl h) (Dvs.has r (by simpa [PyData.canLay0] using c))
 | _, _, .dct h r, c => by simp [PyData.canLay0] at c
theorem Dvs.has {K : PySem.W.Frag} {H : Hp} : ∀ {v : List V} {d : List PyData}, Dvs H v d -> PyData.canLayAll0 d = true -> HasDs K H v d
 | _, _, .nil, _ => .nil
 | _, _, .cons h r, c => by
   have c' := c
   simp only [PyData.canLayAll0, Bool.and_eq_true] at c'
   exact .cons (Dv.has h c'.1) (Dvs.has r c'.2)
end
theorem Same.rd {H H' : Hp} {a : Addr} {u : HO} (e : Same H H') (h : Rd H a u) : Rd H' a u := by
 rcases h with h | ⟨o, h⟩
 . exact .inl (e _ _ h)
 . exact .inr ⟨o, e _ _ h⟩
mutual
theorem Dv.keeps {H H' : Hp} (e : Same H H') : ∀ {v : V} {d : PyData}, Dv H v d -> Dv H' v d
 | _, _, .non => .non
 | _, _, .bl b => .bl b
 | _, _, .int i => .int i
 | _, _, .str x => .str x
 | _, _, .tup h r => .tup (e _ _ h) (Dvs.keeps e r)
 | _, _, .lst h r => .lst (e.rd h) (Dvs.keeps e r)
 | _, _, .dct h r => .dct (e _ _ h) (Dks.keeps e r)
theorem Dks.keeps {H H' : Hp} (e : Same H H') : ∀ {v : List (Key × V)} {d : List (PyData × PyData)}, Dks H v d -> Dks H' v d
 | _, _, .nil => .nil
 | _, _, .cons h r => .cons (Dv.keeps e h) (Dks.keeps e r)
theorem Dvs.keeps {H H' : Hp} (e : Same H H') : ∀ {v : List V} {d : List PyData}, Dvs H v d -> Dvs H' v d
 | _, _, .nil => .nil
 | _, _, .cons h r => .cons (Dv.keeps e h) (Dvs.keeps e r)
end
theorem Dvs.length {H : Hp} : ∀ {xs : List V} {ds : List PyData}, Dvs H xs ds -> xs.length = ds.length
 | _, _, .nil => rfl
 | _, _, .cons _ r => by simp [Dvs.length r]
theorem Dvs.get {H : Hp} : ∀ {xs : List V} {ds : List PyData} {i : Nat} {d : PyData}, Dvs H xs ds -> ds[i]? = some d -> ∃ x, xs[i]? = some x /\ Dv H x d
 | _, _, _, _, .nil, e => by simp at e
 | _, _, 0, _, .cons h _, e => by simp at e; subst e; exact ⟨_, rfl, h⟩
 | _, _, i + 1, x, .cons _ r, e => by
   obtain ⟨d, h1, h2⟩ := Dvs.get (i := i) (d := x) r (by simpa using e)
   exact ⟨d, by simpa using h1, h2⟩
theorem Dvs.append {H : Hp} : ∀ {xs ys : List V} {ds es : List PyData}, Dvs H xs ds -> Dvs H ys es -> Dvs H (xs ++ ys) (ds ++ es)
 | _, _, _, _, .nil, s => s
 | _, _, _, _, .cons r t, s => .cons r (Dvs.append t s)
theorem Dvs.ints {H : Hp} : ∀ (ns : List Int), Dvs H (ns.map V.int) (ns.map PyData.int)
 | [] => .nil
 | n :: ns => .cons (.int n) (Dvs.ints ns)
theorem Dv.int_inv {H : Hp} {v : V} {i : Int} (h : Dv H v (.int i)) : v = .int i := by cases h; rfl
theorem Dv.str_inv {H : Hp} {v : V} {i : Str} (h : Dv H v (.str i)) : v = .str i := by cases h; rfl
def GotD (H : Hp) (d : PyData) (Q : VK) : Prop := match d with
 | .none => Q .non H
 | .bool b => Q (.bl b) H
 | .int i => Q (.int i) H
 | .str x => Q (.str x) H
 | d => ∀ v, Dv H v d -> Q v H
theorem GotD.use {H : Hp} {d : PyData} {Q : VK} (g : GotD H d Q) {v : V} (h : Dv H v d) : Q v H := by
 cases h with
 | non => exact g
 | bl b => exact g
 | int i => exact g
 | str x => exact g
 | tup h r => exact g _ (.tup h r)
 | lst h r => exact g _ (.lst h r)
 | dct h r => exact g _ (.dct h r)
theorem atI_map {H : Hp} {xs : List V} {ds : List PyData} {i : Int} {d : PyData} (r : Dvs H xs ds) (h : atI ds i = some d) : ∃ x, atI xs i = some x /\ Dv H x d := by
 unfold atI at h ⊢
 rw [r.length]
 cases e : ixN ds.length i with
 | none => rw [e] at h; simp at h
 | some j =>
   rw [e] at h
   have h' : ds[j]? = some d := by simpa using h
   obtain ⟨x, h1, h2⟩ := r.get h'
   exact ⟨x, by simpa using h1, h2⟩
def isSeq (H : Hp) (v : V) (ds : List PyData) : Prop := Dv H v (.tuple ds) \/ Dv H v (.list ds)
def rIxD : R2 := fun x y H Q => ∃ ds i d, y = .int i /\ isSeq H x ds /\ atI ds i = some d /\ GotD H d Q
theorem rIxD_ok {K : PySem.W.Frag} {x y : V} {H : Hp} {Q : VK} (h : rIxD x y H Q) : rIx K x y H Q := by
 obtain ⟨ds, i, d, rfl, hs, hi, g⟩ := h
 rcases hs with hs | hs
 . cases hs with
   | tup h r =>
     obtain ⟨v, h1, h2⟩ := atI_map r hi
     exact .inr (.inl ⟨_, _, i, v, rfl, rfl, .of h, h1, g.use h2⟩)
 . cases hs with
   | lst h r =>
     obtain ⟨v, h1, h2⟩ := atI_map r hi
     exact .inl ⟨_, _, i, v, rfl, rfl, .inl h, h1, g.use h2⟩
section
variable {X : Cx}
def rIxA : R2 := fun x y H Q => rIxD x y H Q \/ rIxS x y H Q
theorem ix_A : IxR X rIxA := fun value slice pins s σ H x y v u Q I r1 r2 h => ix_seq value slice pins s σ H x y v u Q I r1 r2 (h.elim rIxD_ok fun z => .inr (.inr z))
def rLenA : List V -> Hp -> VK -> Prop := fun xs H Q => (∃ v ds, xs = [v] /\ isSeq H v ds /\ Q (.int (ds.length : Nat)) H) \/ ∃ z, xs = [.str z] /\ z.length <= sizeLine /\ Q (.int (z.length : Nat)) H
theorem call_lenA : CallR X (.builtin "len") rLenA := fun pins s σ H xs us Q I r h => by
 rcases h with ⟨v, ds, rfl, hs, q⟩ | h
 . rcases hs with hs | hs
   . cases hs with
     | tup h t => exact call_len_seq pins s σ H _ us Q I r ⟨_, _, rfl, .inr (.of h), by rw [t.length]; exact q⟩
   . cases hs with
     | lst h t => exact call_len_seq pins s σ H _ us Q I r ⟨_, _, rfl, .inl (.inl h), by rw [t.length]; exact q⟩
 . exact call_len_str pins s σ H _ us Q I r h
def tyN : PyData -> String
 | .none => "NoneType" | .bool _ => "bool" | .int _ => "int" | .str _ => "str" | .list _ => "list" | .tuple _ => "tuple" | .dict _ => "dict"
def kitBi (t n : String) : Option Bool := if ((Value.type t) == (Value.type n)) = true then some true else if PySem.W.kitMeta n = true then (PySem.fastBuiltinMro t).map (·.contains (.type n)) else none
theorem kitBi_ok {K : PySem.W.Frag} {t n : String} {b : Bool} (h : kitBi t n = some b) : PySem.W.kitOne K (.type t) (.type n) = some b := h
def isiN (t n : String) : Bool := t == n || (t == "bool" && n == "int")
theorem kitBi_all : (["NoneType", "bool", "int", "str", "list", "tuple", "dict"].all fun t => ["int", "bool", "str", "list", "tuple", "dict"].all fun n => kitBi t n == some (isiN t n)) = true := by decide +kernel
theorem kitBi_of {t n : String} (ht : t ∈ ["NoneType", "bool", "int", "str", "list", "tuple", "dict"]) (hn : n ∈ ["int", "bool", "str", "list", "tuple", "dict"]) : kitBi t n = some (isiN t n) := by
 have h := List.all_eq_true.mp (List.all_eq_true.mp kitBi_all t ht) n hn
 exact beq_iff_eq.mp h
theorem tyN_mem (d : PyData) : tyN d ∈ ["NoneType", "bool", "int", "str", "list", "tuple", "dict"] := by
 cases d <;> simp [tyN]
theorem Dv.ty {K : PySem.W.Frag} {H : Hp} {v : V} {d : PyData} (h : Dv H v d) : TyOf K H v (.type (tyN d)) := by
 cases h with
 | non => exact .non
 | bl b => exact .bl b
 | int i => exact .int i
 | str x => exact .str x
 | tup h r => exact .tup h
 | lst h r =>
   rcases h with h | ⟨o, h⟩
   . exact .lst h
   . exact .frz h
 | dct h r => exact .dK h
theorem r_isiD {K : PySem.W.Frag} {H : Hp} {v : V} {d : PyData} {n : String} {Q : VK} (h : Dv H v d) (hn : n ∈ ["int", "bool", "str", "list", "tuple", "dict"]) (q : Q (.bl (isiN (tyN d) n)) H) : rIsi K [v, .ty n] H Q :=
 ⟨v, .ty n, .type n, _, _, rfl, .ty n, h.ty, kitBi_ok (kitBi_of (tyN_mem d) hn), q⟩
def rEqA (K : PySem.W.Frag) (f : Bool -> Bool) : R2 := fun x y H Q => (scal x y = true /\ Q (.bl (f (decide (x = y)))) H) \/ ∃ d e, Dv H x d /\ Dv H y e /\ d.canLay0 = true /\ e.canLay0 = true /\ d.depth <= 8 /\ Q (.bl (f (PyData.eqv d e))) H
theorem op_eqA (hu : X.A.units + 8 < cLine) : OpR X (compareOp .Eq) (rEqA X.K id) := fun pins s σ H x y v u Q I rx ry h => by
 rcases h with h | ⟨d, e, h1, h2, h3, h4, h5, h6⟩
 . exact op_eq pins s σ H x y v u Q I rx ry h
 . exact op_eqD hu pins s σ H x y v u Q I rx ry ⟨d, e, h1.has h3, h2.has h4, h3, h4, h5, h6⟩
theorem op_neA (hu : X.A.units + 8 < cLine) : OpR X (compareOp .NotEq) (rEqA X.K not) := fun pins s σ H x y v u Q I rx ry h => by
 rcases h with h | ⟨d, e, h1, h2, h3, h4, h5, h6⟩
 . exact op_ne pins s σ H x y v u Q I rx ry h
 . exact op_neD hu pins s σ H x y v u Q I rx ry ⟨d, e, h1.has h3, h2.has h4, h3, h4, h5, h6⟩
variable {es : List Expr} {t : TA} {pos : Pos}
def TupP (xs : List V) (H1 : Hp) (Q : VK) : Prop := xs.length <= sizeLine /\ ∃ ds, Dvs H1 xs ds /\ ∀ p H2, Same H1 H2 -> H1 p = none -> H2 p = some (.tup xs) -> Dv H2 (.ref p) (.tuple ds) -> Q (.ref p) H2
def LstP (xs : List V) (H1 : Hp) (Q : VK) : Prop := xs.length <= sizeLine /\ ∃ ds, Dvs H1 xs ds /\ ∀ p H2, Same H1 H2 -> H1 p = none -> H2 p = some (.lst xs) -> Dvs H2 xs ds -> Dv H2 (.ref p) (.list ds) -> Q (.ref p) H2
def tTupD (t : TA) : TE := fun σ H Q => t σ H fun xs H1 => TupP xs H1 Q
theorem pe_tupD {x1} (h : PA X es t) : PE X (.Tuple es x1 pos) (tTupD t) := PE.weak (pe_tup h.m) fun σ H Q q => ⟨_, q, fun xs H1 ⟨hl, ds, hd, k⟩ => ⟨hl, fun p hp => by
 have sm : Same H1 (upd H1 p (.tup xs)) := fun b u e => by rw [upd_ne (ne_of_none e hp)]; exact e
 exact k p _ sm hp upd_same (.tup upd_same (hd.keeps sm))⟩⟩
def tLstD (t : TA) : TE := fun σ H Q => t σ H fun xs H1 => LstP xs H1 Q
theorem pe_lstD (h : PA X es t) : PE X (.List es pos) (tLstD t) := PE.weak (pe_lst h.m) fun σ H Q q => ⟨_, q, fun xs H1 ⟨hl, ds, hd, k⟩ => ⟨hl, fun p hp => by
 have sm : Same H1 (upd H1 p (.lst xs)) := fun b u e => by rw [upd_ne (ne_of_none e hp)]; exact e
 exact k p _ sm hp upd_same (hd.keeps sm) (.lst (.of upd_same) (hd.keeps sm))⟩⟩
variable {st : Stmt} {rest : List Stmt}
def tCut (t u : TS) : TS := fun D σ H => ∃ R : St -> Hp -> Prop, t { D with nx := R } σ H /\ ∀ σ' H', R σ' H' -> u D σ' H'
theorem pss_cut {t u : TS} (h1 : PS X st t) (h2 : PSs X rest u) : PSs X (st :: rest) (tCut t u) := by
 intro pins s σ H D I ⟨R, h, k⟩
 refine wpAny_execs_cons (thn (h1 pins s σ H { D with nx := R } I h) fun f s1 q => ?_)
 cases f with
 | next =>
   obtain ⟨σ', H', I', q⟩ := q
   exact h2 pins s1 σ' H' D I' (k _ _ q)
 | ret v => exact q
 | brk => exact q
 | cont => exact q
end
section
variable {σ : St} {H : Hp} {Q : VK} {D : Ends} {K : PySem.W.Frag}
theorem r_cutS {t u : TS} (h : t { D with nx := u D } σ H) : tCut t u D σ H := ⟨u D, h, fun _ _ z => z⟩
theorem r_tupD {t : TA} (h : t σ H fun xs H1 => TupP xs H1 Q) : tTupD t σ H Q := h
theorem r_tupE {xs : List V} {ds : List PyData} (hl : xs.length <= sizeLine) (hd : Dvs H xs ds) (k : ∀ v H2, Same H H2 -> Dv H2 v (.tuple ds) -> Q v H2) : TupP xs H Q := ⟨hl, ds, hd, fun p H2 s _ _ d => k (.ref p) H2 s d⟩
theorem r_lstD {t : TA} (h : t σ H fun xs H1 => LstP xs H1 Q) : tLstD t σ H Q := h
theorem r_eqS {f : Bool -> Bool} {x y : V} (e : scal x y = true) (h : Q (.bl (f (decide (x = y)))) H) : rEqA K f x y H Q := .inl ⟨e, h⟩
theorem r_eqD {f : Bool -> Bool} {x y : V} {d e : PyData} (h1 : Dv H x d) (h2 : Dv H y e) (h3 : d.canLay0 = true) (h4 : e.canLay0 = true) (h5 : d.depth <= 8) (h : Q (.bl (f (PyData.eqv d e))) H) : rEqA K f x y H Q := .inr ⟨d, e, h1, h2, h3, h4, h5, h⟩
theorem r_ixT {x : V} {ds : List PyData} {i : Int} {d : PyData} (hs : isSeq H x ds) (hi : atI ds i = some d) (g : GotD H d Q) : rIxA x (.int i) H Q := .inl ⟨ds, i, d, rfl, hs, hi, g⟩
theorem r_lenD {v : V} {ds : List PyData} (hs : isSeq H v ds) (h : Q (.int (ds.length : Nat)) H) : rLenA [v] H Q := .inl ⟨v, ds, rfl, hs, h⟩
theorem got_int {i : Int} (h : Q (.int i) H) : GotD H (.int i) Q := h
theorem got_str {i : Str} (h : Q (.str i) H) : GotD H (.str i) Q := h
theorem got_tup {ds : List PyData} (h : ∀ v, Dv H v (.tuple ds) -> Q v H) : GotD H (.tuple ds) Q := h
theorem if_bl {b : Bool} {A B : Prop} (h1 : b = true -> A) (h2 : b = false -> B) : if b = true then A else B := by
 cases b
 . exact iteF (h2 rfl)
 . exact iteT (h1 rfl)
end
theorem Room.hu8 {k : Nat} {A : Around} (r : Room k A) : A.units + 8 < cLine := Nat.lt_of_le_of_lt (by omega) r.units
theorem Same.at {H H' : Hp} {a : Addr} {o : HO} (s : Same H H') (h : H a = some o) : H' a = some o := s a o h
theorem same_upd {H : Hp} {t : Addr} {o : HO} (h : H t = none) : Same H (upd H t o) := fun b u e => by rw [upd_ne (ne_of_none e h)]; exact e
section
variable {σ : St} {H : Hp} {Q : VK} {D : Ends} {K : PySem.W.Frag}
theorem r_rt {v : V} {R : St -> Hp -> Prop} {rt : VK} {bk ct : St -> Hp -> Prop} (h : rt v H) : (Ends.mk R rt bk ct).rt v H := h
end
def isInt : PyData -> Bool | .int _ => true | .bool _ => true | _ => false
def isBool : PyData -> Bool | .bool _ => true | _ => false
def isStr : PyData -> Bool | .str _ => true | _ => false
def isLst : PyData -> Bool | .list _ => true | _ => false
def isTup : PyData -> Bool | .tuple _ => true | _ => false
def isDct : PyData -> Bool | .dict _ => true | _ => false
section
variable {K : PySem.W.Frag} {H : Hp} {v : V} {d : PyData} {Q : VK}
theorem r_isi_int (h : Dv H v d) (q : Q (.bl (isInt d)) H) : rIsi K [v, .ty "int"] H Q := r_isiD h (by decide) (by cases d <;> exact q)
theorem r_isi_bool (h : Dv H v d) (q : Q (.bl (isBool d)) H) : rIsi K [v, .ty "bool"] H Q := r_isiD h (by decide) (by cases d <;> exact q)
theorem r_isi_lst (h : Dv H v d) (q : Q (.bl (isLst d)) H) : rIsi K [v, .ty "list"] H Q := r_isiD h (by decide) (by cases d <;> exact q)
def Ins (H : Hp) (v : V) (C : Addr) (fs : List (Str × V)) : Prop := ∃ p dx, v = .ref p /\ H p = some (.ins C dx fs)
theorem Ins.keeps {H H' : Hp} {C : Addr} {fs : List (Str × V)} (s : Same H H') (h : Ins H v C fs) : Ins H' v C fs := by
 obtain ⟨p, dx, rfl, e⟩ := h; exact ⟨p, dx, rfl, s _ _ e⟩
theorem r_fldI {R : V -> Prop} {C : Addr} {fs : List (Str × V)} {f : Str} {x : V} (hp : Ins H v C fs) (c : Cls K C) (n : NoAttr K C f) (l : fs.lookup f = some x) (h : R x) :
 ∃ a C dx fs x, v = .ref a /\ H a = some (.ins C dx fs) /\ Cls K C /\ NoAttr K C f /\ fs.lookup f = some x /\ R x := by
 obtain ⟨p, dx, rfl, e⟩ := hp
 exact ⟨p, C, dx, fs, x, rfl, e, c, n, l, h⟩
theorem r_methI {C : Addr} {m : Str} {fs : List (Str × V)} {R : Prop} (hp : Ins H v C fs) (hl : fs.lookup m = none) (h : R) : ∃ a dx fs, v = .ref a /\ H a = some (.ins C dx fs) /\ fs.lookup m = none /\ R := by
 obtain ⟨p, dx, rfl, e⟩ := hp
 exact ⟨p, dx, fs, rfl, e, hl, h⟩
end
def look (f : Str) : List (Str × V) -> Option V
 | [] => none
 | (g, v) :: r => if f = g then some v else look f r
theorem lookup_look (f : Str) : ∀ fs : List (Str × V), fs.lookup f = look f fs
 | [] => rfl
 | (g, v) :: r => by
   show (match f == g with | true => some v | false => r.lookup f) = if f = g then some v else look f r
   by_cases h : f = g
   . subst h; rw [if_pos rfl, beq_self_eq_true]
   . rw [if_neg h, beq_eq_false_iff_ne.mpr h]; exact lookup_look f r
section
variable {X : Cx}
def rIxK (K : PySem.W.Frag) : R2 := fun x y H Q => rIxA x y H Q \/ rIxL K x y H Q
theorem ix_K : IxR X (rIxK X.K) := fun value slice pins s σ H x y v u Q I r1 r2 h => h.elim (ix_A value slice pins s σ H x y v u Q I r1 r2) (ix_list value slice pins s σ H x y v u Q I r1 r2)
def rLenK (K : PySem.W.Frag) : List V -> Hp -> VK -> Prop := fun xs H Q => rLenA xs H Q \/ ∃ p ys, xs = [.ref p] /\ SqL K H p ys /\ Q (.int ys.length) H
theorem call_lenK : CallR X (.builtin "len") (rLenK X.K) := fun pins s σ H xs us Q I r h => by
 rcases h with h | ⟨p, ys, e, hl, q⟩
 . exact call_lenA pins s σ H xs us Q I r h
 . exact call_len_seq pins s σ H xs us Q I r ⟨p, ys, e, .inl hl, q⟩
end
section
variable {σ : St} {H : Hp} {Q : VK} {D : Ends} {K : PySem.W.Frag}
theorem r_ixD {x : V} {ds : List PyData} {i : Int} {d : PyData} (hs : isSeq H x ds) (hi : atI ds i = some d) (g : GotD H d Q) : rIxK K x (.int i) H Q := .inl (r_ixT hs hi g)
theorem r_ixL {p : Addr} {xs : List V} {i : Int} {v : V} (hs : SqL K H p xs) (hi : atI xs i = some v) (g : Q v H) : rIxK K (.ref p) (.int i) H Q := .inr ⟨p, xs, i, v, rfl, rfl, hs, hi, g⟩
theorem r_lenK {v : V} {ds : List PyData} (hs : isSeq H v ds) (h : Q (.int (ds.length : Nat)) H) : rLenK K [v] H Q := .inl (r_lenD hs h)
theorem r_lenL {p : Addr} {xs : List V} (hs : SqL K H p xs) (h : Q (.int xs.length) H) : rLenK K [.ref p] H Q := .inr ⟨p, xs, rfl, hs, h⟩
theorem r_sfld {ta tv : TE} {f : Str} (h : tv σ H fun y H1 => ta σ H1 fun x H2 => ∃ a C dx fs, x = .ref a /\ H2 a = some (.ins C dx fs) /\ Cls K C /\ NoAttr K C f /\ fs.length < 1000 /\ D.nx σ (upd H2 a (.ins C dx (putF f y fs)))) : sFld K ta tv f D σ H := h
theorem r_sfldv {p C dx : Addr} {fs fs' : List (Str × V)} {f : Str} {y : V} (hp : H p = some (.ins C dx fs)) (c : Cls K C) (n : NoAttr K C f) (hl : fs.length < 1000) (e : putF f y fs = fs') (h : D.nx σ (upd H p (.ins C dx fs'))) :
 ∃ a C dx fs, V.ref p = .ref a /\ H a = some (.ins C dx fs) /\ Cls K C /\ NoAttr K C f /\ fs.length < 1000 /\ D.nx σ (upd H a (.ins C dx (putF f y fs))) := ⟨p, C, dx, fs, rfl, hp, c, n, hl, by rw [e]; exact h⟩
theorem r_fldA {R : V -> Prop} {C dx p : Addr} {fs : List (Str × V)} {f : Str} {v : V} (hp : H p = some (.ins C dx fs)) (c : Cls K C) (n : NoAttr K C f) (l : fs.lookup f = some v) (h : R v) :
 ∃ a C dx fs v, V.ref p = .ref a /\ H a = some (.ins C dx fs) /\ Cls K C /\ NoAttr K C f /\ fs.lookup f = some v /\ R v := ⟨p, C, dx, fs, v, rfl, hp, c, n, l, h⟩
theorem r_is {R : Prop} (h : R) : V.non = V.non /\ R := ⟨rfl, h⟩
end
theorem bg {i : Int} (h1 : -(10 ^ 200) < i) (h2 : i < 10 ^ 200) : i.natAbs < 2 ^ 2000 := by
 have : (10 : Nat) ^ 200 < 2 ^ 2000 := by decide +kernel
 have h3 : i.natAbs < 10 ^ 200 := by
  have e : ((10 : Nat) ^ 200 : Nat) = ((10 : Int) ^ 200).toNat := by decide +kernel
  rw [e]
  generalize (10 : Int) ^ 200 = m at h1 h2 ⊢
  omega
 exact Nat.lt_trans h3 this
theorem cmulB {i j : Int} (h1 : -(10 ^ 200) < i /\ i < 10 ^ 200) (h2 : -(10 ^ 200) < j /\ j < 10 ^ 200) : CMulB i j := ⟨bg h1.1 h1.2, bg h2.1 h2.2⟩
theorem cdivB {i j : Int} (h1 : 0 < j) (h2 : j < 10 ^ 200) : CDivB i j := ⟨h1, bg (Int.lt_trans (by decide) h1) h2⟩
def cell (ns : List Int) (k : Nat) : Int := ns.getD k 0
def spCell (K : PySem.W.Frag) : Sp := fun vs H Q _ => ∃ l ns k, vs = [.ref l, .int k] /\ SqL K H l (ns.map V.int) /\ 0 <= k /\ Q (.int (cell ns k.toNat)) H
theorem u_cell {K : PySem.W.Frag} {H : Hp} {Q : VK} {E : XK} {l : Addr} {ns : List Int} {k : Int} (h : SqL K H l (ns.map V.int)) (hk : 0 <= k) (q : Q (.int (cell ns k.toNat)) H) : spCell K [.ref l, .int k] H Q E := ⟨l, ns, k, rfl, h, hk, q⟩
theorem cell_at {ns : List Int} {k : Int} (h0 : 0 <= k) (h : k < (ns.map V.int).length) : atI (ns.map V.int) k = some (.int (cell ns k.toNat)) := by
 obtain ⟨n, rfl⟩ := Int.eq_ofNat_of_zero_le h0
 refine atI_nat ?_
 have hn : n < ns.length := by simpa using h
 simp [cell, hn, List.getD_eq_getElem?_getD]
theorem cell_no {ns : List Int} {k : Int} (h0 : 0 <= k) (h : ¬ k < (ns.map V.int).length) : cell ns k.toNat = 0 := by
 have : ns.length <= k.toNat := by simp at h; omega
 simp [cell, List.getD_eq_getElem?_getD, this]
def withD (sp : Sp) (vs : List V) (H : Hp) (Q : VK) (E : XK) : Prop := ∃ ws, vs = ws /\ sp ws H Q E
theorem withD_eq (sp : Sp) (vs : List V) (H : Hp) (Q : VK) (E : XK) : withD sp vs H Q E = sp vs H Q E := propext ⟨fun ⟨_, e, h⟩ => e ▸ h, fun h => ⟨vs, rfl, h⟩⟩
def tCallN (sp : Sp) (dvs : List V) (E : XK) (t : TA) : TE := fun σ H Q => t σ H fun vs H1 => withD sp (vs ++ dvs) H1 Q E
theorem tCallN_eq (sp : Sp) (dvs : List V) (E : XK) (t : TA) : tCallN sp dvs E t = tCall sp dvs E t := by
 funext σ H Q; unfold tCallN tCall; congr 1; funext vs H1; exact withD_eq _ _ _ _ _
def tMethN (C : Addr) (m : Str) (sp : Sp) (dvs : List V) (E : XK) (ta : TE) (t : TA) : TE := fun σ H Q => ta σ H fun x H1 => ∃ a dx fs, x = .ref a /\ H1 a = some (.ins C dx fs) /\ fs.lookup m = none /\
 t σ H1 fun vs H2 => withD sp (x :: (vs ++ dvs)) H2 Q E
theorem tMethN_eq (C : Addr) (m : Str) (sp : Sp) (dvs : List V) (E : XK) (ta : TE) (t : TA) : tMethN C m sp dvs E ta t = tMeth C m sp dvs E ta t := by
 funext σ H Q; unfold tMethN tMeth; congr 1; funext x H1
 have : ∀ H2 : Hp, (fun vs H2 => withD sp (x :: (vs ++ dvs)) H2 Q E) = fun vs H2 => sp (x :: (vs ++ dvs)) H2 Q E := fun _ => by funext vs H2; exact withD_eq _ _ _ _ _
 rw [this H1]
def MakeP (C : Addr) (sp : Sp) (vs : List V) (H1 : Hp) (Q : VK) (E : XK) : Prop := ∃ ws, vs = ws /\ ∀ x dx, H1 x = none -> H1 dx = none -> dx ≠ x ->
 sp (.ref x :: ws) (upd (upd H1 dx (.own x)) x (.ins C dx [])) (fun v H2 => v = .non /\ Q (.ref x) H2) E
def tMakeN (C : Addr) (sp : Sp) (dvs : List V) (E : XK) (t : TA) : TE := fun σ H Q => t σ H fun vs H1 => MakeP C sp (vs ++ dvs) H1 Q E
theorem tMakeN_eq (C : Addr) (sp : Sp) (dvs : List V) (E : XK) (t : TA) : tMakeN C sp dvs E t = tMake C sp dvs E t := by
 funext σ H Q; unfold tMakeN tMake MakeP; congr 1; funext vs H1
 exact propext ⟨fun ⟨_, e, h⟩ => by subst e; exact h, fun h => ⟨_, rfl, h⟩⟩
section
variable {X : Cx} {k : Nat} {f C : Addr} {ps : List Str} {sp : Sp} {dvs : List V} {x m : Str} {p pos apos : Pos} {e o : Expr} {es : List Expr} {ta : TE} {t : TA}
theorem pn_call (c : Cal X.prog X.w X.K X.mg X.base k f ps dvs sp) (hr : Room k X.A) (hg : Gl X x) (hm : X.mg x = some (.ref f)) (hk : PySem.W.keepIn X.K (.ref f) = true)
 (ha : PA X (e :: es) t) (hdb : (x == ("__debug__" : Str)) = false := by decide) (he : starEach (e :: es) X.env = (false, eval e X.env) :: starEach es X.env := by rfl) (hpl : (backTo pos (starEach es X.env)).any (·.1) = false := by rfl) :
 PE X (.Call (.Name x p) (e :: es) [] pos) (tCallN sp dvs E0 t) := by rw [tCallN_eq]; exact pc_call c hr hg hm hk ha hdb he hpl
theorem pn_meth {pl : Sem Bool} (he : PE X o ta) (c : Cls X.K C) (hm : Meth X.K C m f) (F : Cal X.prog X.w X.K X.mg X.base k f ps dvs sp) (hr : Room k X.A) (ha : PA X (e :: es) t)
 (hst : starEach (e :: es) X.env = (false, eval e X.env) :: starEach es X.env := by rfl) (hpl : (backTo pos (starEach es X.env)).any (·.1) = false := by rfl)
 (ht : eval (.Call (.Attribute o m apos) (e :: es) [] pos) X.env = (do
  let ov <- eval o X.env
  standAt apos.atName
  let (f, first) <- holding [ov] (getMethod ov m pl)
  callWith pos f first (backTo pos (starEach (e :: es) X.env)) (backToKw pos (keywordEach [] X.env))) := by rfl) :
 PE X (.Call (.Attribute o m apos) (e :: es) [] pos) (tMethN C m sp dvs E0 ta t) := by rw [tMethN_eq]; exact pc_meth he c hm F hr ha hst hpl ht
theorem pn_meth0 {pl : Sem Bool} (he : PE X o ta) (c : Cls X.K C) (hm : Meth X.K C m f) (F : Cal X.prog X.w X.K X.mg X.base k f ps dvs sp) (hr : Room k X.A)
 (ht : eval (.Call (.Attribute o m apos) [] [] pos) X.env = (do
  let ov <- eval o X.env
  standAt apos.atName
  let (f, first) <- holding [ov] (getMethod ov m pl)
  callWith pos f first (backTo pos (starEach [] X.env)) (backToKw pos (keywordEach [] X.env))) := by rfl) :
 PE X (.Call (.Attribute o m apos) [] [] pos) (tMethN C m sp dvs E0 ta tNil) := by rw [tMethN_eq]; exact pc_meth0 he c hm F hr ht
theorem pn_make (M : Mk X.K C f) (F : Cal X.prog X.w X.K X.mg X.base k f ps dvs sp) (hr : Room (k + 1) X.A) (hg : Gl X x) (hm : X.mg x = some (.ref C))
 (ha : PA X (e :: es) t) (hdb : (x == ("__debug__" : Str)) = false := by decide) (he : starEach (e :: es) X.env = (false, eval e X.env) :: starEach es X.env := by rfl) (hpl : (backTo pos (starEach es X.env)).any (·.1) = false := by rfl) :
 PE X (.Call (.Name x p) (e :: es) [] pos) (tMakeN C sp dvs E0 t) := by rw [tMakeN_eq]; exact pc_make M F hr hg hm ha hdb he hpl
theorem pn_base {pl : Sem Bool} (hg : Gl X x) (hm : X.mg x = some (.ref C)) (B : BaseM X.K C m f) (F : Cal X.prog X.w X.K X.mg X.base k f ps dvs sp) (hr : Room k X.A) (ha : PA X (e :: es) t)
 (hdb : (x == ("__debug__" : Str)) = false := by decide)
 (hst : starEach (e :: es) X.env = (false, eval e X.env) :: starEach es X.env := by rfl) (hpl : (backTo pos (starEach es X.env)).any (·.1) = false := by rfl)
 (ht : eval (.Call (.Attribute (.Name x p) m apos) (e :: es) [] pos) X.env = (do
  let ov <- eval (.Name x p) X.env
  standAt apos.atName
  let (f, first) <- holding [ov] (getMethod ov m pl)
  callWith pos f first (backTo pos (starEach (e :: es) X.env)) (backToKw pos (keywordEach [] X.env))) := by rfl) :
 PE X (.Call (.Attribute (.Name x p) m apos) (e :: es) [] pos) (tCallN sp dvs E0 t) := by rw [tCallN_eq]; exact pc_base hg hm B F hr ha hdb hst hpl ht
end
section
variable {σ : St} {H : Hp} {Q : VK} {D : Ends} {K : PySem.W.Frag}
theorem r_callN {sp : Sp} {dvs : List V} {E : XK} {t : TA} (h : t σ H fun vs H1 => withD sp (vs ++ dvs) H1 Q E) : tCallN sp dvs E t σ H Q := h
theorem r_wd {sp : Sp} {vs ws : List V} {E : XK} (e : vs = ws) (h : sp ws H Q E) : withD sp vs H Q E := ⟨ws, e, h⟩
theorem r_methN {C : Addr} {m : Str} {sp : Sp} {dvs : List V} {E : XK} {ta : TE} {t : TA} (h : ta σ H fun x H1 => ∃ a dx fs, x = .ref a /\ H1 a = some (.ins C dx fs) /\ fs.lookup m = none /\ t σ H1 fun vs H2 => withD sp (x :: (vs ++ dvs)) H2 Q E) : tMethN C m sp dvs E ta t σ H Q := h
theorem r_makeN {C : Addr} {sp : Sp} {dvs : List V} {E : XK} {t : TA} (h : t σ H fun vs H1 => MakeP C sp (vs ++ dvs) H1 Q E) : tMakeN C sp dvs E t σ H Q := h
theorem r_truB {b : Bool} {R : Bool -> Prop} (h : R b) : ∃ k, TruV K (.bl b) H k /\ R k := ⟨b, rfl, h⟩
end
theorem len64 {n : Nat} (h : Nat.ble n 64 = true) : n <= sizeLine := Nat.le_trans (Nat.le_of_ble_eq_true h) (by decide)
theorem got_any {H : Hp} {d : PyData} {Q : VK} (h : ∀ v, Dv H v d -> Q v H) : GotD H d Q := by
 cases d with
 | none => exact h _ .non
 | bool b => exact h _ (.bl b)
 | int i => exact h _ (.int i)
 | str x => exact h _ (.str x)
 | list l => exact h
 | tuple l => exact h
 | dict l => exact h
section
variable {X : Cx} {st : Stmt} {rest : List Stmt}
def tCutM (t u : TS) : TS := tCut t u
theorem pss_cutM {t u : TS} (h1 : PS X st t) (h2 : PSs X rest u) : PSs X (st :: rest) (tCutM t u) := pss_cut h1 h2
end
section
variable {σ : St} {H : Hp} {Q : VK} {D : Ends} {K : PySem.W.Frag}
theorem r_cutM {t u : TS} (R : St -> Hp -> Prop) (h : t { D with nx := R } σ H) (k : ∀ σ' H', R σ' H' -> u D σ' H') : tCutM t u D σ H := ⟨R, h, k⟩
def ForL (K : PySem.W.Frag) (x : V) (g : TG) (tb : TS) (D : Ends) (σ : St) (H1 : Hp) : Prop := ∃ a, x = .ref a /\ (∃ xs, SqL K H1 a xs) /\ ∃ W : Nat -> Nat -> St -> Hp -> Prop, (∃ m, W 0 m σ H1) /\ ∀ i m σ H, W i m σ H ->
 ((Itl K a).stop i H /\ D.nx σ H) \/ ((Itl K a).go i H /\ ∃ N : St -> Hp -> Prop, (∀ σ' H', N σ' H' -> ∃ m', m' < m /\ W (i + 1) m' σ' H') /\ ∀ x H', (Itl K a).yld i H x H' -> g x σ H' fun σ2 H2 => tb { D with nx := N, ct := N, bk := D.nx } σ2 H2)
theorem r_for {tl : TE} {g : TG} {tb : TS} (h : tl σ H fun x H1 => ForL K x g tb D σ H1) : tFor (iList K tl) g tb D σ H := h
theorem forL {a : Addr} {xs : List V} {g : TG} {tb : TS} (hl : SqL K H a xs) (Pv : Nat -> St -> Hp -> Prop) (h0 : Pv 0 σ H) (hk : ∀ i σ H, i <= xs.length -> Pv i σ H -> SqL K H a xs)
 (hs : ∀ i x σ H, xs[i]? = some x -> Pv i σ H -> g x σ H fun σ2 H2 => tb { D with nx := Pv (i + 1), ct := Pv (i + 1), bk := D.nx } σ2 H2) (hd : ∀ σ H, Pv xs.length σ H -> D.nx σ H) : ForL K (.ref a) g tb D σ H :=
 ⟨a, rfl, ⟨xs, hl⟩, for_list Pv h0 hk hs hd⟩
def ForR (lo : Int) (n : Nat) (g : TG) (tb : TS) (D : Ends) (σ : St) (H1 : Hp) : Prop := ∃ W : Nat -> Nat -> St -> Hp -> Prop, (∃ m, W 0 m σ H1) /\ ∀ i m σ H, W i m σ H ->
 ((Itr lo n).stop i H /\ D.nx σ H) \/ ((Itr lo n).go i H /\ ∃ N : St -> Hp -> Prop, (∀ σ' H', N σ' H' -> ∃ m', m' < m /\ W (i + 1) m' σ' H') /\ ∀ x H', (Itr lo n).yld i H x H' -> g x σ H' fun σ2 H2 => tb { D with nx := N, ct := N, bk := D.nx } σ2 H2)
theorem r_forR1 {ta : TA} {g : TG} {tb : TS} (h : ta σ H fun vs H1 => ∃ j : Int, vs = [.int j] /\ -(2 ^ 62) <= j /\ j < 2 ^ 62 /\ ForR 0 j.toNat g tb D σ H1) : tFor (iRng1 ta) g tb D σ H := h
theorem r_rng1 {j : Int} {R : Int -> Prop} (h1 : -(2 ^ 62) <= j) (h2 : j < 2 ^ 62) (h : R j) : ∃ i : Int, [V.int j] = [.int i] /\ -(2 ^ 62) <= i /\ i < 2 ^ 62 /\ R i := ⟨j, rfl, h1, h2, h⟩
end
section
variable {X : Cx}
def rMaxP : List V -> Hp -> VK -> Prop := fun xs H Q => ∃ i j, xs = [.int i, .int j] /\ ∀ k, (k = i \/ k = j) -> i <= k -> j <= k -> Q (.int k) H
theorem call_maxP (hc : X.calm = true) : CallR X (.builtin "max") rMaxP := fun pins s σ H xs us Q I r ⟨i, j, e, h⟩ => call_max2 hc pins s σ H xs us Q I r ⟨i, j, e, by
 split
 . exact h _ (.inr rfl) (by omega) (by omega)
 . exact h _ (.inl rfl) (by omega) (by omega)⟩
def rModP : R2 := fun x y H Q => ∃ i j, x = .int i /\ y = .int j /\ 0 < j /\ (0 <= i % j -> i % j < j -> Q (.int (i % j)) H)
theorem op_modP : OpR X (binaryOp .Mod) rModP := fun pins s σ H x y v u Q I rx ry ⟨i, j, e1, e2, hj, h⟩ => op_mod pins s σ H x y v u Q I rx ry ⟨i, j, e1, e2, hj, h (Int.emod_nonneg _ (by omega)) (Int.emod_lt_of_pos _ hj)⟩
end
section
variable {σ : St} {H : Hp} {Q : VK} {D : Ends} {K : PySem.W.Frag}
theorem r_maxP {i j : Int} (h : ∀ k, (k = i \/ k = j) -> i <= k -> j <= k -> Q (.int k) H) : rMaxP [.int i, .int j] H Q := ⟨i, j, rfl, h⟩
theorem r_modP {i j : Int} (hj : 0 < j) (h : 0 <= i % j -> i % j < j -> Q (.int (i % j)) H) : rModP (.int i) (.int j) H Q := ⟨i, j, rfl, rfl, hj, h⟩
end
section
variable {σ : St} {H : Hp} {Q : VK} {D : Ends} {K : PySem.W.Frag}
def WTurn (Pv : Nat -> St -> Hp -> Prop) (m : Nat) (tb : TS) (D : Ends) (σ : St) (H1 : Hp) : Prop := ∃ N : St -> Hp -> Prop, (∀ σ' H', N σ' H' -> ∃ m', m' < m /\ Pv m' σ' H') /\ tb { D with nx := N, ct := N, bk := D.nx } σ H1
theorem r_turn {Pv : Nat -> St -> Hp -> Prop} {m : Nat} {tb : TS} (h : tb { D with nx := fun σ' H' => ∃ m', m' < m /\ Pv m' σ' H', ct := fun σ' H' => ∃ m', m' < m /\ Pv m' σ' H', bk := D.nx } σ H) : WTurn Pv m tb D σ H := ⟨_, fun _ _ h => h, h⟩
theorem r_while {c : TT} {tb : TS} (Pv : Nat -> St -> Hp -> Prop) (h0 : ∃ m, Pv m σ H) (hs : ∀ m σ H, Pv m σ H -> c σ H fun b H1 => if b = true then WTurn Pv m tb D σ H1 else D.nx σ H1) : tWhile c tb D σ H := ⟨Pv, h0, hs⟩
end
end L2
namespace L2
theorem len1000 {n : Nat} (h : Nat.blt n 1000 = true) : n < 1000 := by
 unfold Nat.blt at h
 exact Nat.le_of_ble_eq_true h
end L2
namespace L2
open PySem PySem.Spec PyProof.Rows
section
variable {X : Cx}
end
section
variable {σ : St} {H : Hp} {Q : VK} {D : Ends} {K : PySem.W.Frag}
end
theorem r_powE {H : Hp} {Q : VK} {i j p : Int} (c : CPow i j) (e : i ^ j.toNat = p) (h : Q (.int p) H) : rI CPow (fun i j => .int (i ^ j.toNat)) (.int i) (.int j) H Q := ⟨i, j, rfl, rfl, c, by show Q (.int (i ^ j.toNat)) H; rw [e]; exact h⟩
section
variable {X : Cx} {e : Expr}
end
section
variable {σ : St} {H : Hp} {Q : VK} {D : Ends} {K : PySem.W.Frag}
end
end L2
namespace L2
end L2
namespace L2
open PySem PySem.Spec PyProof.Rows PySem.W
structure Swo (lt : Nat -> Nat -> Bool) : Prop where
 irr : ∀ a, lt a a = false
 asy : ∀ a b, lt a b = true -> lt b a = false
 ntr : ∀ a b c, lt a b = false -> lt b c = false -> lt a c = false
section
variable {lt : Nat -> Nat -> Bool} {n : Nat} {S : Shared -> Prop} {cmp : Nat -> Nat -> (Bool -> Shared -> Prop) -> Shared -> Prop}
def Up (lt : Nat -> Nat -> Bool) (p : Array Nat) (k : Nat) : Prop := ∀ i j, i < j -> j < k -> lt (p.getD j 0) (p.getD i 0) = false
def Down (lt : Nat -> Nat -> Bool) (p : Array Nat) (k : Nat) : Prop := ∀ i j, i < j -> j < k -> lt (p.getD i 0) (p.getD j 0) = false
def Alike (lt : Nat -> Nat -> Bool) (p : Array Nat) (a b : Nat) : Prop := ∀ i j, a <= i -> i < b -> a <= j -> j < b -> lt (p.getD i 0) (p.getD j 0) = false
structure Ix (n : Nat) (p : Array Nat) : Prop where
 sz : p.size = n
 pm : p.toList.Perm (List.range n)
theorem Ix.low {p : Array Nat} (h : Ix n p) {i : Nat} (hi : i < n) : p.getD i 0 < n := by
 have hi' : i < p.size := by rw [h.sz]; exact hi
 have e : p.getD i 0 = p[i] := by simp [Array.getD, hi']
 rw [e]
 have : p[i] ∈ p.toList := by simp
 exact List.mem_range.mp (h.pm.mem_iff.mp this)
theorem Ix.perm {p q : Array Nat} (h : Ix n p) (hq : q.Perm p) : Ix n q := ⟨hq.size_eq.trans h.sz, (Array.perm_iff_toList_perm.mp hq).trans h.pm⟩
theorem getD_rev {p : Array Nat} {i j : Nat} (hj : j <= p.size) (k : Nat) : (kas_rev p i j).getD k 0 = if i <= k /\ k < j then p.getD (i + j - 1 - k) 0 else p.getD k 0 := by
 unfold kas_rev
 rw [Array.getD_eq_getD_getElem?, getElem?_mirror_all hj k]
 by_cases h : i <= k /\ k < j
 . rw [if_pos h, if_pos h, Array.getD_eq_getD_getElem?]
 . rw [if_neg h, if_neg h, Array.getD_eq_getD_getElem?]
theorem ix_rev {p : Array Nat} (h : Ix n p) (i j : Nat) : Ix n (kas_rev p i j) := h.perm (mirror_perm _ _ _ _)
theorem getD_bub {p : Array Nat} {k d : Nat} (hk : k < p.size) (hd : d <= k) (i : Nat) : (bubble p k d).getD i 0 = if i = k - d then p.getD k 0 else if k - d < i /\ i <= k then p.getD (i - 1) 0 else p.getD i 0 := by
 rw [Array.getD_eq_getD_getElem?, getElem?_bubble hk d hd i]
 by_cases h : i = k - d
 . rw [if_pos h, if_pos h, Array.getD_eq_getD_getElem?]
 . rw [if_neg h, if_neg h]
   by_cases h2 : k - d < i /\ i <= k
   . rw [if_pos h2, if_pos h2, Array.getD_eq_getD_getElem?]
   . rw [if_neg h2, if_neg h2, Array.getD_eq_getD_getElem?]
def Asks (n : Nat) (lt : Nat -> Nat -> Bool) (S : Shared -> Prop) (cmp : Nat -> Nat -> (Bool -> Shared -> Prop) -> Shared -> Prop) : Prop :=
 ∀ i j C s, i < n -> j < n -> S s -> (∀ s', S s' -> C (lt i j) s') -> cmp i j C s
variable (w : Swo lt) (ha : Asks n lt S cmp)
include w ha
theorem asc_ok {p : Array Nat} (hp : Ix n p) {Q : Nat -> Shared -> Prop} : ∀ (f k : Nat), 1 <= k -> k + f <= n -> Up lt p k -> (∀ m s, S s -> k <= m -> m <= k + f -> Up lt p m -> (m = k + f \/ (m < k + f /\ lt (p.getD m 0) (p.getD (m - 1) 0) = true)) -> Q m s) -> ∀ s, S s -> (kas_asc p f k).kasWp cmp Q s
 | 0, k, _, _, hu, hq, s, hs => hq k s hs (Nat.le_refl _) (Nat.le_refl _) hu (.inl rfl)
 | f + 1, k, h1, hf, hu, hq, s, hs => by
   refine ha _ _ _ _ (hp.low (by omega)) (hp.low (by omega)) hs fun s' hs' => ?_
   cases e : lt (p.getD k 0) (p.getD (k - 1) 0) with
   | true => exact hq k s' hs' (Nat.le_refl _) (by omega) hu (.inr ⟨by omega, e⟩)
   | false =>
     refine asc_ok hp f (k + 1) (by omega) (by omega) (fun i j hij hj => ?_) (fun m s hs a b c d => hq m s hs (by omega) (by omega) c (by rcases d with d | d; exact .inl (by omega); exact .inr ⟨by omega, d.2⟩)) s' hs'
     by_cases hjk : j < k
     . exact hu i j hij hjk
     . have : j = k := by omega
       subst this
       by_cases hi : i = j - 1
       . rw [hi]; exact e
       . exact w.ntr _ _ _ e (hu i (j - 1) (by omega) (by omega))
theorem desc_ok {Q : Array Nat × Nat × Nat -> Shared -> Prop} : ∀ (f : Nat) (p : Array Nat) (k q : Nat), Ix n p -> k + f <= n -> q + 1 <= k -> Down lt p k -> Alike lt p (k - (q + 1)) k ->
 (∀ p' k' q' s, S s -> Ix n p' -> k <= k' -> k' <= k + f -> q' + 1 <= k' -> Down lt p' k' -> Alike lt p' (k' - (q' + 1)) k' -> Q (p', k', q') s) -> ∀ s, S s -> (kas_desc f p k q).kasWp cmp Q s
 | 0, p, k, q, hp, _, h1, hd, hl, hq, s, hs => hq p k q s hs hp (Nat.le_refl _) (Nat.le_refl _) h1 hd hl
 | f + 1, p, k, q, hp, hf, h1, hd, hl, hq, s, hs => by
   refine ha _ _ _ _ (hp.low (by omega)) (hp.low (by omega)) hs fun s' hs' => ?_
   cases e : lt (p.getD k 0) (p.getD (k - 1) 0) with
   | true =>
     have hbelow : ∀ i, i < k -> lt (p.getD i 0) (p.getD k 0) = false := fun i hi => by
      by_cases h : i = k - 1
      . rw [h]; exact w.asy _ _ e
      . exact w.ntr _ _ _ (hd i (k - 1) (by omega) (by omega)) (w.asy _ _ e)
     by_cases h0 : q > 0
     . simp only [if_true, if_pos h0]
       have hk : k <= p.size := by rw [hp.sz]; omega
       refine desc_ok f _ (k + 1) 0 (ix_rev hp _ _) (by omega) (by omega) (fun i j hij hj => ?_) (fun i j a b c d => ?_) (fun p' k' q' s hs a b c d e f => hq p' k' q' s hs a (by omega) (by omega) d e f) s' hs'
       . rw [getD_rev hk, getD_rev hk]
         by_cases hjk : j = k
         . subst hjk
           rw [if_neg (show ¬ (j - (q + 1) <= j /\ j < j) by omega)]
           by_cases hi : j - (q + 1) <= i /\ i < j
           . rw [if_pos hi]; exact hbelow _ (by omega)
           . rw [if_neg hi]; exact hbelow _ hij
         . by_cases hi : k - (q + 1) <= i /\ i < k
           . rw [if_pos hi, if_pos (show k - (q + 1) <= j /\ j < k by omega)]
             exact hl _ _ (by omega) (by omega) (by omega) (by omega)
           . rw [if_neg hi]
             by_cases hj2 : k - (q + 1) <= j /\ j < k
             . rw [if_pos hj2]; exact hd _ _ (by omega) (by omega)
             . rw [if_neg hj2]; exact hd _ _ hij (by omega)
       . have : i = k := by omega
         have : j = k := by omega
         subst_vars
         exact w.irr _
     . simp only [if_true, if_neg h0]
       refine desc_ok f _ (k + 1) 0 hp (by omega) (by omega) (fun i j hij hj => ?_) (fun i j a b c d => ?_) (fun p' k' q' s hs a b c d e f => hq p' k' q' s hs a (by omega) (by omega) d e f) s' hs'
       . by_cases hjk : j = k
         . subst hjk; exact hbelow _ hij
         . exact hd _ _ hij (by omega)
       . have : i = k := by omega
         have : j = k := by omega
         subst_vars
         exact w.irr _
   | false =>
     simp only [Bool.false_eq_true, if_false]
     refine ha _ _ _ _ (hp.low (by omega)) (hp.low (by omega)) hs' fun s2 hs2 => ?_
     cases e2 : lt (p.getD (k - 1) 0) (p.getD k 0) with
     | true => simp only [if_true]; exact hq p k q s2 hs2 hp (Nat.le_refl _) (by omega) h1 hd hl
     | false =>
       simp only [Bool.false_eq_true, if_false]
       refine desc_ok f _ (k + 1) (q + 1) hp (by omega) (by omega) (fun i j hij hj => ?_) (fun i j a b c d => ?_) (fun p' k' q' s hs a b c d e f => hq p' k' q' s hs a (by omega) (by omega) d e f) s2 hs2
       . by_cases hjk : j = k
         . subst hjk
           by_cases h : i = j - 1
           . rw [h]; exact e2
           . exact w.ntr _ _ _ (hd i (j - 1) (by omega) (by omega)) e2
         . exact hd _ _ hij (by omega)
       . by_cases hi : i = k
         . by_cases hj : j = k
           . rw [hi, hj]; exact w.irr _
           . rw [hi]; exact w.ntr _ _ _ e (hl _ _ (by omega) (by omega) (by omega) (by omega))
         . by_cases hj : j = k
           . rw [hj]; exact w.ntr _ _ _ (hl _ _ (by omega) (by omega) (by omega) (by omega)) e2
           . exact hl _ _ (by omega) (by omega) (by omega) (by omega)
theorem tail3_ok {Q : Nat × Array Nat -> Shared -> Prop} {p : Array Nat} {k : Nat} (hp : Ix n p) (h1 : 1 <= k) (hk : k <= n) (hd : Down lt p k) (hq : ∀ m p' s, S s -> Ix n p' -> 1 <= m -> m <= n -> Up lt p' m -> Q (m, p') s) (s : Shared) (hs : S s) : (kas_tail3 k n p).kasWp cmp Q s := by
 unfold kas_tail3
 rw [KasT.kasWp_bind]
 have hk' : k <= p.size := by rw [hp.sz]; exact hk
 refine asc_ok w ha (ix_rev hp 0 k) (n - k) k h1 (by omega) (fun i j hij hj => ?_) (fun m s hs a b c _ => hq m _ s hs (ix_rev hp _ _) (by omega) (by omega) c) s hs
 rw [getD_rev hk', getD_rev hk', if_pos (by omega), if_pos (by omega)]
 exact hd _ _ (by omega) (by omega)
theorem descPart_ok {Q : Nat × Array Nat -> Shared -> Prop} {p : Array Nat} {k : Nat} (hp : Ix n p) (h1 : 1 <= k) (hk : k + 1 <= n) (hd : Down lt p (k + 1)) (hq : ∀ m p' s, S s -> Ix n p' -> 1 <= m -> m <= n -> Up lt p' m -> Q (m, p') s) (s : Shared) (hs : S s) : (kas_descPart k n p).kasWp cmp Q s := by
 unfold kas_descPart
 rw [KasT.kasWp_bind]
 refine desc_ok w ha _ p (k + 1) 0 hp (by omega) (by omega) hd (fun i j a b c d => ?_) (fun p' k' q' s hs hp' a b c hd' hl => ?_) s hs
 . have : i = k := by omega
   have : j = k := by omega
   subst_vars
   exact w.irr _
 . by_cases h0 : q' > 0
   . simp only [if_pos h0]
     have hk' : k' <= p'.size := by rw [hp'.sz]; omega
     refine tail3_ok w ha (ix_rev hp' _ _) (by omega) (by omega) (fun i j hij hj => ?_) hq s hs
     rw [getD_rev hk', getD_rev hk']
     by_cases hi : k' - (q' + 1) <= i /\ i < k'
     . rw [if_pos hi, if_pos (by omega)]; exact hl _ _ (by omega) (by omega) (by omega) (by omega)
     . rw [if_neg hi]
       by_cases hj2 : k' - (q' + 1) <= j /\ j < k'
       . rw [if_pos hj2]; exact hd' _ _ (by omega) (by omega)
       . rw [if_neg hj2]; exact hd' _ _ hij (by omega)
   . simp only [if_neg h0]
     exact tail3_ok w ha hp' (by omega) (by omega) hd' hq s hs
theorem count_ok {Q : Nat × Array Nat -> Shared -> Prop} {p : Array Nat} (hn : 1 <= n) (hp : Ix n p) (hq : ∀ m p' s, S s -> Ix n p' -> 1 <= m -> m <= n -> Up lt p' m -> Q (m, p') s) (s : Shared) (hs : S s) : (kas_count n p).kasWp cmp Q s := by
 unfold kas_count
 rw [KasT.kasWp_bind]
 refine asc_ok w ha hp (n - 1) 1 (Nat.le_refl _) (by omega) (fun i j _ _ => by omega) (fun m s hs a b hu hc => ?_) s hs
 by_cases hm : (m == n) = true
 . simp only [if_pos hm]; exact hq m p s hs hp a (by have := beq_iff_eq.mp hm; omega) hu
 . simp only [if_neg hm]
   have hmn : m ≠ n := fun z => hm (beq_iff_eq.mpr z)
   have hlt : m < n := by omega
   have hc' : lt (p.getD m 0) (p.getD (m - 1) 0) = true := by
    rcases hc with hc | hc
    . omega
    . exact hc.2
   by_cases h1 : m > 1
   . simp only [if_pos h1]
     refine ha _ _ _ _ (hp.low (by omega)) (hp.low (by omega)) hs fun s2 hs2 => ?_
     cases e : lt (p.getD 0 0) (p.getD (m - 1) 0) with
     | true => simp only [if_true]; exact hq m p s2 hs2 hp a (by omega) hu
     | false =>
       simp only [Bool.false_eq_true, if_false]
       have hk : m <= p.size := by rw [hp.sz]; omega
       have al : ∀ i j, i < m -> j < m -> lt (p.getD i 0) (p.getD j 0) = false := fun i j hi hj => by
        have h1 : lt (p.getD i 0) (p.getD 0 0) = false := by
         by_cases h : i = 0
         . rw [h]; exact w.irr _
         . exact hu 0 i (by omega) hi
        have h2 : lt (p.getD i 0) (p.getD (m - 1) 0) = false := w.ntr _ _ _ h1 e
        by_cases h : j = m - 1
        . rw [h]; exact h2
        . exact w.ntr _ _ _ h2 (hu j (m - 1) (by omega) (by omega))
       refine descPart_ok w ha (ix_rev hp _ _) a (by omega) (fun i j hij hj => ?_) hq s2 hs2
       rw [getD_rev hk, getD_rev hk, if_pos (by omega)]
       by_cases hjm : j < m
       . rw [if_pos (by omega)]; exact al _ _ (by omega) (by omega)
       . rw [if_neg (by omega)]
         have : j = m := by omega
         subst this
         exact w.ntr _ _ _ (al _ (j - 1) (by omega) (by omega)) (w.asy _ _ hc')
   . simp only [if_neg h1]
     refine descPart_ok w ha hp a (by omega) (fun i j hij hj => ?_) hq s hs
     have h1 : m = 1 := by omega
     have hi : i = m - 1 := by omega
     have hj : j = m := by omega
     rw [hi, hj]
     exact w.asy _ _ hc'
theorem place_ok {p : Array Nat} {k : Nat} (hp : Ix n p) (hk : k < n) (hu : Up lt p k) {Q : Nat -> Shared -> Prop} : ∀ (f l r : Nat), l <= r -> r <= k -> r - l <= f -> (∀ i, i < l -> lt (p.getD k 0) (p.getD i 0) = false) -> (∀ i, r <= i -> i < k -> lt (p.getD k 0) (p.getD i 0) = true) ->
 (∀ l s, S s -> l <= k -> (∀ i, i < l -> lt (p.getD k 0) (p.getD i 0) = false) -> (∀ i, l <= i -> i < k -> lt (p.getD k 0) (p.getD i 0) = true) -> Q l s) -> ∀ s, S s -> (kas_place p k f l r).kasWp cmp Q s
 | 0, l, r, hlr, hr, hf, h1, h2, hq, s, hs => hq l s hs (by omega) h1 (fun i a b => h2 i (by omega) b)
 | f + 1, l, r, hlr, hr, hf, h1, h2, hq, s, hs => by
   unfold kas_place
   by_cases h : l ≥ r
   . rw [if_pos h]; exact hq l s hs (by omega) h1 (fun i a b => h2 i (by omega) b)
   . rw [if_neg h]
     refine ha _ _ _ _ (hp.low hk) (hp.low (by omega)) hs fun s' hs' => ?_
     cases e : lt (p.getD k 0) (p.getD ((l + r) / 2) 0) with
     | true =>
       simp only [if_true]
       refine place_ok hp hk hu f l ((l + r) / 2) (by omega) (by omega) (by omega) h1 (fun i a b => ?_) hq s' hs'
       by_cases hi : i = (l + r) / 2
       . rw [hi]; exact e
       . cases e3 : lt (p.getD k 0) (p.getD i 0) with
         | true => rfl
         | false => rw [w.ntr _ _ _ e3 (hu ((l + r) / 2) i (by omega) b)] at e; exact e
     | false =>
       simp only [Bool.false_eq_true, if_false]
       refine place_ok hp hk hu f ((l + r) / 2 + 1) r (by omega) (by omega) (by omega) (fun i a => ?_) h2 hq s' hs'
       by_cases hi : i = (l + r) / 2
       . rw [hi]; exact e
       . exact w.ntr _ _ _ e (hu i ((l + r) / 2) (by omega) (by omega))
theorem bin_ok {Q : Array Nat -> Shared -> Prop} : ∀ (f : Nat) (p : Array Nat) (k : Nat), Ix n p -> k + f = n -> Up lt p k -> (∀ p' s, S s -> Ix n p' -> Up lt p' n -> Q p' s) -> ∀ s, S s -> (kas_bin f p k).kasWp cmp Q s
 | 0, p, k, hp, hf, hu, hq, s, hs => by
   have : k = n := by omega
   subst this
   exact hq p s hs hp hu
 | f + 1, p, k, hp, hf, hu, hq, s, hs => by
   unfold kas_bin
   rw [KasT.kasWp_bind]
   refine place_ok w ha hp (by omega) hu k 0 k (by omega) (Nat.le_refl _) (by omega) (fun i h => by omega) (fun i a b => by omega) (fun l s hs hl h1 h2 => ?_) s hs
   have hk : k < p.size := by rw [hp.sz]; omega
   refine bin_ok f _ (k + 1) (hp.perm (bubble_perm _ _ _)) (by omega) (fun i j hij hj => ?_) hq s hs
   rw [getD_bub hk (by omega), getD_bub hk (by omega)]
   have el : k - (k - l) = l := by omega
   rw [el]
   by_cases hjl : j = l
   . rw [if_pos hjl, if_neg (by omega), if_neg (by omega)]; exact h1 i (by omega)
   . rw [if_neg hjl]
     by_cases hil : i = l
     . rw [if_pos hil, if_pos (by omega)]; exact w.asy _ _ (h2 _ (by omega) (by omega))
     . rw [if_neg hil]
       by_cases hi2 : l < i /\ i <= k
       . rw [if_pos hi2, if_pos (by omega)]; exact hu _ _ (by omega) (by omega)
       . rw [if_neg hi2]
         by_cases hj2 : l < j /\ j <= k
         . rw [if_pos hj2]; exact hu _ _ (by omega) (by omega)
         . rw [if_neg hj2]; exact hu _ _ hij (by omega)
theorem sort_ok {Q : Array Nat -> Shared -> Prop} (hn : 1 <= n) (hq : ∀ p' s, S s -> Ix n p' -> Up lt p' n -> Q p' s) (s : Shared) (hs : S s) : (kas_sort n).kasWp cmp Q s := by
 unfold kas_sort
 rw [KasT.kasWp_bind]
 refine count_ok w ha hn ⟨by simp, by simp⟩ (fun m p' s hs hp h1 hm hu => ?_) s hs
 by_cases h : m < n
 . simp only [if_pos h]
   have : max m 1 = m := by omega
   rw [this]
   exact bin_ok w ha _ p' m hp (by omega) hu hq s hs
 . simp only [if_neg h]
   have : m = n := by omega
   subst this
   exact hq p' s hs hp hu
end
section
variable {X : Cx} {pins : List (Addr × Obj)} {σ : St} {H H' : Hp} {s : Shared} {a : Addr}
theorem Inv.upd1 {f : Obj -> Obj} (I : Inv X pins σ H s) (fa : FpOk X pins H a) : Inv X pins σ H { s with heap := s.heap.update a f } :=
 I.turned (t' := s.toks) (fun b o hb e => by rw [Heap.get?_update_ne _ _ _ _ hb]; exact e) fa.1 fa.2.1 fa.2.2.2.1 fa.2.2.2.2.1 fa.2.2.2.2.2
theorem Inv.push1 {o : Obj} (I : Inv X pins σ H s) : Inv X pins σ H { s with heap := s.heap.push o } := I.kept (t' := s.toks) fun b u e => Heap.get?_push_of_some _ e
theorem Inv.track {acc : List V} {its : List Value} {n : Nat} (I : Inv X pins σ H s) (fa : FpOk X pins H a) (hn0 : X.s₀.heap.objs.size <= a) (hl : acc.length <= sizeLine) (r : Vals acc its) (hd : s.heap.get? a = some { cls := .type "list", data := .seq its.toArray n }) :
 Inv X pins σ (upd H a (.lst acc)) s := by
 have ne : ∀ b u, H b = some u -> b ≠ a := fun b u e => ne_of_none e fa.1
 have old : ∀ b o, X.s₀.heap.get? b = some o -> b ≠ a := fun b o e => Nat.ne_of_lt (Nat.lt_of_lt_of_le (Heap.lt_size e) hn0)
 have U := I.base
 refine ⟨I.ok, I.os, I.bare, ⟨U.keep, U.slot, fun b o e n hx => ?_, U.there, fun b xs e => ?_, fun b o u e => ?_, fun b ps e => ?_⟩, I.loc, I.cell, ?_, fun x c e => ?_, fun p hp => ?_, fun b u e => ?_, I.len⟩
 . rw [upd_ne (old b o e)]; exact U.free b o e n hx
 . rw [upd_ne (ne b _ (U.tups b xs e))]; exact U.tups b xs e
 . rw [upd_ne (ne b _ (U.frzs b o u e))]; exact U.frzs b o u e
 . obtain ⟨more, q⟩ := U.tbls b ps e
   exact ⟨more, by rw [upd_ne (ne b _ q)]; exact q⟩
 . rw [upd_ne (Ne.symm fa.2.1)]; exact I.free
 . rw [upd_ne (fa.2.2.2.2.1 x c e)]; exact I.freeC x c e
 . obtain ⟨e1, e2, e3⟩ := I.pin p hp
   exact ⟨e1, by rw [upd_ne (fa.2.2.2.2.2 p hp)]; exact e2, e3⟩
 . by_cases hb : b = a
   . subst hb
     rw [upd_same] at e
     cases e
     exact ⟨hl, its, n, r, hd⟩
   . rw [upd_ne hb] at e
     exact (I.hok b u e).stay (fun c v _ q => q) (fun c q => by rw [upd_ne (ne c _ q)]; exact q) fun c xs q => by rw [upd_ne (ne c _ q)]; exact q
end
def ltS (a b : Str) : Bool := decide (a.cps.toList < b.cps.toList)
def ltIS (a b : Int × Str) : Bool := decide (a.1 < b.1) || (decide (a.1 = b.1) && ltS a.2 b.2)
theorem ltS_irr (a : Str) : ltS a a = false := decide_eq_false (List.lt_irrefl _)
theorem ltS_asy {a b : Str} (h : ltS a b = true) : ltS b a = false := decide_eq_false (List.lt_asymm (of_decide_eq_true h))
theorem ltS_ntr {a b c : Str} (h : ltS a b = false) (h2 : ltS b c = false) : ltS a c = false := by
 unfold ltS at *
 have h1' : b.cps.toList <= a.cps.toList := List.not_lt.mp (of_decide_eq_false h)
 have h2' : c.cps.toList <= b.cps.toList := List.not_lt.mp (of_decide_eq_false h2)
 exact decide_eq_false (List.not_lt.mpr (List.le_trans h2' h1'))
theorem str_ext {a b : Str} (h : a.cps.toList = b.cps.toList) : a = b := by
 cases a; cases b
 simp only at h
 rw [Array.toList_inj.mp h]
theorem ltS_tot {a b : Str} (h : ltS a b = false) (h2 : ltS b a = false) : a = b := by
 unfold ltS at *
 have h1' : b.cps.toList <= a.cps.toList := List.not_lt.mp (of_decide_eq_false h)
 have h2' : a.cps.toList <= b.cps.toList := List.not_lt.mp (of_decide_eq_false h2)
 exact str_ext (List.le_antisymm h2' h1')
theorem ltIS_iff {a b : Int × Str} : ltIS a b = true ↔ a.1 < b.1 \/ (a.1 = b.1 /\ ltS a.2 b.2 = true) := by
 unfold ltIS; simp
theorem ltIS_niff {a b : Int × Str} : ltIS a b = false ↔ ¬ a.1 < b.1 /\ (a.1 = b.1 -> ltS a.2 b.2 = false) := by
 unfold ltIS; simp
theorem ltIS_irr (a : Int × Str) : ltIS a a = false := ltIS_niff.mpr ⟨by omega, fun _ => ltS_irr _⟩
theorem ltIS_asy {a b : Int × Str} (h : ltIS a b = true) : ltIS b a = false := by
 rcases ltIS_iff.mp h with h | ⟨h, h2⟩
 . exact ltIS_niff.mpr ⟨by omega, fun _ => by omega⟩
 . exact ltIS_niff.mpr ⟨by omega, fun _ => ltS_asy h2⟩
theorem ltIS_ntr {a b c : Int × Str} (h : ltIS a b = false) (h2 : ltIS b c = false) : ltIS a c = false := by
 obtain ⟨h1, h3⟩ := ltIS_niff.mp h
 obtain ⟨h4, h5⟩ := ltIS_niff.mp h2
 refine ltIS_niff.mpr ⟨by omega, fun e => ?_⟩
 exact ltS_ntr (h3 (by omega)) (h5 (by omega))
theorem ltIS_tot {a b : Int × Str} (h : ltIS a b = false) (h2 : ltIS b a = false) : a = b := by
 obtain ⟨h1, h3⟩ := ltIS_niff.mp h
 obtain ⟨h4, h5⟩ := ltIS_niff.mp h2
 have e : a.1 = b.1 := by omega
 exact Prod.ext e (ltS_tot (h3 e) (h5 e.symm))
section
variable {prog : Program} {w : World} {A : Around} {E : Value -> Shared -> Prop} {s : Shared}
theorem lt_pair {x y : Addr} {i j : Int} {t u t2 u2 : Tok} {c d : Str} {Q : Bool -> Shared -> Prop} (hx : IsTup s.heap x #[.int i t, .str c t2]) (hy : IsTup s.heap y #[.int j u, .str d u2]) (h : Q (ltIS (i, c) (j, d)) s) :
 wpAny (model prog w) A (keyLt' (tuples' true) (.ref x) (.ref y)) Q E s := by
 obtain ⟨ox, hox, cx, nx, dx⟩ := hx
 obtain ⟨oy, hoy, cy, ny, dy⟩ := hy
 refine kat_lt hox dx hoy dy ?_
 refine kat_cons (wpAny_eqBool_int ?_)
 by_cases e : i = j
 . rw [show (i == j) = true from beq_iff_eq.mpr e]
   refine kat_yes (kat_cons (wpAny_eqBool_str ?_))
   by_cases e2 : c = d
   . rw [decide_eq_true e2]
     refine kat_yes (kat_nil ?_)
     have : ltIS (i, c) (j, d) = false := by rw [e, e2]; exact ltIS_irr _
     rw [this] at h
     exact h
   . rw [decide_eq_false e2]
     refine kat_no (kat_one _ _ (lt_str ?_))
     have : ltIS (i, c) (j, d) = ltS c d := by unfold ltIS; simp [e]
     rw [this] at h
     exact h
 . rw [show (i == j) = false from beq_eq_false_iff_ne.mpr e]
   refine kat_no (oneLt_int ?_)
   have : ltIS (i, c) (j, d) = decide (i < j) := by unfold ltIS; simp [e]
   rw [this] at h
   exact h
end
def InOrder {α : Type} (lt : α -> α -> Bool) (kf : V -> α) (ys xs : List V) : Prop := ys.Perm xs /\ ys.Pairwise fun x y => lt (kf y) (kf x) = false
section
variable {X : Cx} {pins : List (Addr × Obj)} {σ : St} {H : Hp} {s : Shared} {k : Nat} {f : Addr} {fd : FuncData} {ps : List Str} {sp : Sp} {kf : V -> Int × Str} {A : Around}
structure Keys (X : Cx) (pins : List (Addr × Obj)) (σ : St) (H : Hp) (kf : V -> Int × Str) (a kS : Addr) (oa : Obj) (xs : List V) (s' : Shared) : Prop where
 mk ::
 ex : ∃ H' us e ys, Inv X pins σ H' s' /\ Same H H' /\ H' a = none /\ H' kS = none /\ s'.heap.get? a = some oa /\ s'.heap.get? kS = some (seqObj "list" (List.toArray us) e) /\ Vals ys us /\ Dvs H' ys (xs.map fun v => .tuple [.int (kf v).1, .str (kf v).2])
theorem order_of {xs : List V} {p : Array Nat} {α : Type} {lt : α -> α -> Bool} {kf : V -> α} (hp : Ix xs.length p) (hu : Up (fun i j => lt (kf (xs.getD i .non)) (kf (xs.getD j .non))) p xs.length) : InOrder lt kf (p.toList.map fun i => xs.getD i .non) xs := by
 refine ⟨?_, ?_⟩
 . have h := hp.pm.map fun i => xs.getD i .non
   have e : (List.range xs.length).map (fun i => xs.getD i .non) = xs := by
    refine List.ext_getElem? fun i => ?_
    rw [List.getElem?_map]
    by_cases hi : i < xs.length
    . rw [List.getElem?_range hi]; simp [hi]
    . rw [List.getElem?_eq_none (by simpa using hi), List.getElem?_eq_none (by simpa using hi)]; rfl
   rw [e] at h
   exact h
 . rw [List.pairwise_map, List.pairwise_iff_getElem]
   intro i j hi hj hij
   have hsz : p.toList.length = xs.length := by simp [hp.sz]
   have := hu i j hij (by omega)
   have gi : p.getD i 0 = p.toList[i] := by simp [Array.getD, show i < p.size by rw [hp.sz]; omega]
   have gj : p.getD j 0 = p.toList[j] := by simp [Array.getD, show j < p.size by rw [hp.sz]; omega]
   rw [gi, gj] at this
   exact this
theorem vals_getD : ∀ {xs : List V} {us : List Value} (i : Nat), Vals xs us -> RelV (xs.getD i .non) (us.getD i Value.none)
 | _, _, _, .nil => rfl
 | _, _, 0, .cons r _ => r
 | _, _, i + 1, .cons _ t => by simpa using vals_getD i t
theorem vals_mapD {xs : List V} {us : List Value} (r : Vals xs us) : ∀ l : List Nat, Vals (l.map fun i => xs.getD i .non) (l.map fun i => us.getD i Value.none)
 | [] => .nil
 | i :: l => .cons (vals_getD i r) (vals_mapD r l)
theorem dvs_getD {H : Hp} {g : V -> PyData} : ∀ {ys : List V} {xs : List V} {i : Nat}, Dvs H ys (xs.map g) -> i < xs.length -> Dv H (ys.getD i .non) (g (xs.getD i .non))
 | _, [], _, _, h => by simp at h
 | _, _ :: _, 0, .cons h _, _ => h
 | _, _ :: _, i + 1, .cons _ t, hi => by simpa using dvs_getD (i := i) t (by simpa using hi)
def SortFin (X : Cx) (pins : List (Addr × Obj)) (σ : St) (H : Hp) {α : Type} (lt : α -> α -> Bool) (kf : V -> α) (xs : List V) (Q : VK) : Prop :=
 ∀ a ys H', Same H H' -> H a = none -> H' a = none -> InOrder lt kf ys xs -> Q (.ref a) (upd H' a (.lst ys))
theorem asks_pair {H' : Hp} {s' : Shared} {xs ys : List V} {us : List Value} {A : Around} (I : Inv X pins σ H' s') (rv : Vals ys us) (dv : Dvs H' ys (xs.map fun v => .tuple [.int (kf v).1, .str (kf v).2])) :
 Asks xs.length (fun i j => ltIS (kf (xs.getD i .non)) (kf (xs.getD j .non))) (fun z => z = s') (kas_ask X.prog X.w A (tuples' true) us) := by
 intro i j C z hi hj hz hC
 subst hz
 have one : ∀ i, i < xs.length -> ∃ x t t2, us.getD i Value.none = .ref x /\ IsTup z.heap x #[.int (kf (xs.getD i .non)).1 t, .str (kf (xs.getD i .non)).2 t2] := fun i hi => by
  have d := dvs_getD dv hi
  have r := vals_getD i rv
  generalize ys.getD i .non = y at d r
  generalize us.getD i Value.none = u at r
  cases d with
  | tup h q =>
    have r' : u = .ref _ := r
    obtain ⟨its, rr, tt, _⟩ := I.tuple (.of h)
    cases q with
    | cons h1 q =>
      cases q with
      | cons h2 q =>
        cases q
        cases h1; cases h2
        cases rr with
        | cons r1 rr =>
          cases rr with
          | cons r2 rr =>
            cases rr
            obtain ⟨t1, rfl⟩ := r1
            obtain ⟨t2, rfl⟩ := r2
            exact ⟨_, t1, t2, r', tt⟩
 obtain ⟨x, t, t2, e1, hx⟩ := one i hi
 obtain ⟨y, u, u2, e2, hy⟩ := one j hj
 show wpAny (model X.prog X.w) A (keyLt' (tuples' true) (us.getD i Value.none) (us.getD j Value.none)) C (fun _ _ => False) z
 rw [e1, e2]
 exact lt_pair hx hy (hC _ rfl)
theorem kinds_pair {H' : Hp} {s' : Shared} : ∀ {xs ys : List V} {us : List Value}, Inv X pins σ H' s' -> Vals ys us -> Dvs H' ys (xs.map fun v => .tuple [.int (kf v).1, .str (kf v).2]) ->
 ∃ fs, KatTups s'.heap us fs /\ fs.length = us.length /\ ∀ v ∈ fs, Looks (model X.prog X.w) s'.heap (typeOf v) (.type "int")
 | [], _, _, I, rv, dv => by
   cases dv
   cases rv
   exact ⟨[], trivial, rfl, fun _ z => nomatch z⟩
 | x :: xs, _, _, I, rv, dv => by
   cases dv with
   | cons d dv =>
     cases rv with
     | cons r rv =>
       obtain ⟨fs, h1, h2, h3⟩ := kinds_pair I rv dv
       cases d with
       | tup h q =>
         obtain ⟨its, rr, tt, _⟩ := I.tuple (.of h)
         cases q with
         | cons q1 q =>
           cases q with
           | cons q2 q =>
             cases q
             cases q1; cases q2
             cases rr with
             | cons r1 rr =>
               cases rr with
               | cons r2 rr =>
                 cases rr
                 obtain ⟨t1, rfl⟩ := r1
                 obtain ⟨t2, rfl⟩ := r2
                 cases r
                 obtain ⟨o, ho, hc, n, hd⟩ := tt
                 refine ⟨_ :: fs, KatTups.cons ho hc hd rfl h1, by simp [h2], fun v hv => ?_⟩
                 rcases List.mem_cons.mp hv with rfl | hv
                 . exact .now
                 . exact h3 v hv
end
section
variable {X : Cx} {pins : List (Addr × Obj)} {σ : St} {H : Hp} {s : Shared} {k : Nat} {f : Addr} {fd : FuncData} {ps : List Str} {sp : Sp} {kf : V -> Int × Str} {A : Around}
end
section
variable {X : Cx} {k : Nat} {f : Addr} {ps : List Str} {sp : Sp} {e : Expr} {t : TA} {x : Str} {p p2 pos kpos : Pos}
end
end L2
namespace L2
open PySem PySem.Spec PyProof.Rows
theorem closure_ok {scope : Scope} {env : Env} (h : ∀ x ∈ scope.names, x.2 = .free -> ∃ c, env.cells.lookup x.1 = some c) :
 ∃ cl, closureFor scope env = pure cl /\ (∀ x c, cl.lookup x = some c -> env.cells.lookup x = some c) /\ ∀ x ∈ scope.names, x.2 = .free -> ∃ c, cl.lookup x.1 = some c := by
 have key : ∀ (l : List (Str × NameKind)) (acc : List (Str × Addr)), (∀ x ∈ l, x.2 = .free -> ∃ c, env.cells.lookup x.1 = some c) -> (∀ x c, acc.lookup x = some c -> env.cells.lookup x = some c) ->
  ∃ cl, (forIn l acc (fun (x : Str × NameKind) (r : List (Str × Addr)) => (match x with
    | (name, kind) => if (kind == NameKind.free) = true then (do let c <- cellOf env name; pure (ForInStep.yield ((name, c) :: r))) else pure (ForInStep.yield r) : Sem (ForInStep (List (Str × Addr))))) : Sem _) = pure cl /\
    (∀ x c, cl.lookup x = some c -> env.cells.lookup x = some c) /\ (∀ x ∈ l, x.2 = .free -> ∃ c, cl.lookup x.1 = some c) /\ ∀ x, (∃ c, acc.lookup x = some c) -> ∃ c, cl.lookup x = some c := by
  intro l
  induction l with
  | nil => intro acc _ ha; exact ⟨acc, rfl, ha, fun _ z => (nomatch z), fun _ z => z⟩
  | cons p r ih =>
    intro acc hl ha
    obtain ⟨n, k⟩ := p
    rw [List.forIn_cons]
    by_cases hk : k = .free
    . subst hk
      obtain ⟨c, hc⟩ := hl (n, .free) List.mem_cons_self rfl
      have hcell : cellOf env n = pure c := by unfold cellOf; rw [hc]
      obtain ⟨cl, e, h1, h2, h3⟩ := ih ((n, c) :: acc) (fun x hx => hl x (List.mem_cons_of_mem _ hx)) (fun x d hd => by
       rw [List.lookup_cons] at hd
       by_cases hx : x = n
       . subst hx; rw [beq_self_eq_true] at hd; cases hd; exact hc
       . rw [beq_eq_false_iff_ne.mpr hx] at hd; exact ha x d hd)
      refine ⟨cl, ?_, h1, fun x hx hf => ?_, fun x ⟨d, hd⟩ => h3 x ?_⟩
      . simp only [beq_self_eq_true, if_true, hcell]
        exact e
      . rcases List.mem_cons.mp hx with rfl | hx
        . exact h3 n ⟨c, by rw [List.lookup_cons, beq_self_eq_true]⟩
        . exact h2 x hx hf
      . rw [List.lookup_cons]
        by_cases hx : x = n
        . subst hx; rw [beq_self_eq_true]; exact ⟨c, rfl⟩
        . rw [beq_eq_false_iff_ne.mpr hx]; exact ⟨d, hd⟩
    . obtain ⟨cl, e, h1, h2, h3⟩ := ih acc (fun x hx => hl x (List.mem_cons_of_mem _ hx)) ha
      refine ⟨cl, ?_, h1, fun x hx hf => ?_, h3⟩
      . have : (k == NameKind.free) = false := by simpa using hk
        simp only [this, Bool.false_eq_true, if_false]
        exact e
      . rcases List.mem_cons.mp hx with rfl | hx
        . exact absurd hf hk
        . exact h2 x hx hf
 obtain ⟨cl, e, h1, h2, _⟩ := key scope.names [] h (fun _ _ z => by simp at z)
 refine ⟨cl, ?_, h1, h2⟩
 unfold closureFor
 show (forIn scope.names [] _ >>= fun cs => pure cs) = _
 refine Eq.trans (congrArg (· >>= _) e) rfl
theorem relabel_look {env : Env} {scope : Scope} {x : Str} : (relabel scope env).names.lookup x = (scope.names.lookup x).map fun k => if (k == NameKind.free && env.scope.kind == .function && env.kindOf x == some .cell) = true then .cell else k := by
 unfold relabel
 show List.lookup x (List.map _ scope.names) = _
 generalize scope.names = l
 induction l with
 | nil => rfl
 | cons p r ih =>
   obtain ⟨n, k⟩ := p
   rw [List.map_cons]
   dsimp only
   by_cases hx : x = n
   . subst hx
     by_cases hc : (k == NameKind.free && env.scope.kind == .function && env.kindOf x == some .cell) = true
     . rw [if_pos hc, List.lookup_cons, List.lookup_cons, beq_self_eq_true]; simp only [Option.map_some, if_pos hc]
     . rw [if_neg hc, List.lookup_cons, List.lookup_cons, beq_self_eq_true]; simp only [Option.map_some, if_neg hc]
   . have hb : (x == n) = false := beq_eq_false_iff_ne.mpr hx
     by_cases hc : (k == NameKind.free && env.scope.kind == .function && env.kindOf n == some .cell) = true
     . rw [if_pos hc, List.lookup_cons, List.lookup_cons, hb]; exact ih
     . rw [if_neg hc, List.lookup_cons, List.lookup_cons, hb]; exact ih
theorem mem_lookup {α : Type} {x : Str} {k : α} : ∀ {l : List (Str × α)}, l.lookup x = some k -> (x, k) ∈ l
 | [], h => by simp at h
 | (n, j) :: r, h => by
   rw [List.lookup_cons] at h
   by_cases hx : x = n
   . subst hx; rw [beq_self_eq_true] at h; cases h; exact List.mem_cons_self
   . rw [beq_eq_false_iff_ne.mpr hx] at h; exact List.mem_cons_of_mem _ (mem_lookup h)
def cxLC (X : Cx) (N : List Str) (scope : Scope) (cl : List (Str × Addr)) (C : Addr) (s : Shared) (H : Hp) (fp : List Addr) : Cx :=
 { X with N := N, s₀ := s, H₀ := H, env := compEnvC scope cl C X.env, outer := X.stack, stack := X.stack, ex := fp, fn := fun _ => false, pn := [], xe := fun _ _ => False }
structure LCNames (X : Cx) (T M : List Str) (scope : Scope) : Prop where
 kind : scope.kind = .function
 cell : ∀ y ∈ scope.names, y.2 ≠ .cell
 names : ∀ y ∈ scope.names, y.2 = .local -> scope.names.lookup y.1 = some .local
 free : ∀ y ∈ scope.names, y.2 = .free -> X.env.scope.names.lookup y.1 = some .cell \/ X.env.scope.names.lookup y.1 = some .free
 len : M.length = X.N.length
 old : ∀ (i : Nat) x, M[i]? = some x -> X.N[i]? = some x /\ scope.names.lookup x = some .free \/ scope.names.lookup x = none
section
variable {X : Cx} {pins : List (Addr × Obj)} {σ : St} {H : Hp} {s : Shared} {T M : List Str} {scope : Scope} {cl : List (Str × Addr)} {fp : List Addr}
theorem lc_ok {C : Addr} (I : Inv X pins σ H s) (hN : LCNames X T M scope) (h1 : ∀ x c, cl.lookup x = some c -> X.env.cells.lookup x = some c) (h2 : ∀ x ∈ scope.names, x.2 = .free -> ∃ c, cl.lookup x.1 = some c)
 (hC : s.heap.objs.size <= C) (hf : ∀ b ∈ fp, FpOk X pins H b) (hfe : ∀ b ∈ fp, b < s.heap.objs.size) : (cxLC X (T ++ M) scope cl C s H fp).Ok where
 mod := I.ok.mod
 kind := hN.kind
 glob := I.ok.glob
 blt := I.ok.blt
 above := hC
 inj := fun x y c e1 e2 => I.ok.inj x y c (h1 x c e1) (h1 y c e2)
 has := fun x hx => by
  have hx' : (relabel scope X.env).names.lookup x = some .cell \/ (relabel scope X.env).names.lookup x = some .free := hx
  rw [relabel_look] at hx'
  cases e : scope.names.lookup x with
  | none => rw [e] at hx'; simp at hx'
  | some k =>
    have hm := mem_lookup e
    have hk : k = .free := by
     rw [e] at hx'
     simp only [Option.map_some, Option.some.injEq] at hx'
     by_cases hf : k = .free
     . exact hf
     . have : (k == NameKind.free) = false := by simpa using hf
       simp only [this, Bool.false_and, Bool.false_eq_true, if_false] at hx'
       rcases hx' with hx' | hx'
       . exact absurd hx' (hN.cell _ hm)
       . exact hx'
    exact h2 (x, k) hm hk
 cab := fun _ _ z => by cases z
 hd := I.ok.hd
 frames := I.ok.frames
 stk := .inl rfl
 exf := fun b hb => ⟨Nat.ne_of_lt (Nat.lt_of_lt_of_le (hfe b hb) hC), fun x c e => (hf b hb).2.2.2.2.1 x c (h1 x c e)⟩
 bs := I.bs
 bsz := Nat.le_trans I.ok.bsz I.sz
 noex := fun b o e hb => by
  rcases (hf b hb).2.2.2.1 with z | z
  . exact I.ok.noex b o e z
  . exact absurd (Nat.lt_of_lt_of_le (Heap.lt_size e) (Nat.le_trans I.ok.bsz z)) (Nat.lt_irrefl _)
 exfs := fun b hb z => by
  rcases List.mem_cons.mp (I.stkSub b z) with e | e
  . exact (hf b hb).2.1 e
  . exact (hf b hb).2.2.1 e
 funs := I.stack
 frf := I.stkFree
theorem lc_start {C : Addr} {h₁ : Heap} {tk : Nat} (I : Inv X pins σ H s) (hN : LCNames X T M scope) (h1 : ∀ x c, cl.lookup x = some c -> X.env.cells.lookup x = some c) (h2 : ∀ x ∈ scope.names, x.2 = .free -> ∃ c, cl.lookup x.1 = some c)
 (hC : s.heap.objs.size <= C) (hf : ∀ b ∈ fp, FpOk X pins H b) (hfe : ∀ b ∈ fp, b < s.heap.objs.size)
 {m : Str -> Option Value} (hn : h₁.Ns C m) (old : ∀ b o, s.heap.get? b = some o -> h₁.get? b = some o) :
 Inv (cxLC X (T ++ M) scope cl C s H fp) [] (List.replicate T.length none ++ σ) H { s with heap := h₁, toks := tk } where
 ok := lc_ok I hN h1 h2 hC hf hfe
 os := rfl
 bare := I.bare
 base := Un.kept old
 loc := by
  refine ⟨m, hn, fun i x v e1 e2 e3 => ?_⟩
  have e1' : (T ++ M)[i]? = some x := e1
  by_cases hi : i < T.length
  . rw [List.getElem?_append_left (by simpa using hi), List.getElem?_replicate, if_pos hi] at e2
    cases e2
  . have hi' : T.length <= i := Nat.le_of_not_lt hi
    rw [List.getElem?_append_right hi'] at e1'
    rw [List.getElem?_append_right (by simpa using hi'), List.length_replicate] at e2
    have vis : Vis (relabel scope X.env) x := e3
    rcases hN.old _ x e1' with ⟨hx, hfr⟩ | hno
    . obtain ⟨m0, hn0, hl0⟩ := I.loc
      have hk := hN.free _ (mem_lookup hfr) rfl
      have hk' : X.env.scope.names.lookup x = some .cell \/ X.env.scope.names.lookup x = some .free := hk
      obtain ⟨u, r, l⟩ := hl0 _ x v hx e2 (.inr hk')
      refine ⟨u, r, .inr ?_⟩
      rcases l with ⟨z, _⟩ | ⟨_, c, hc, hcell⟩
      . have z' : X.env.scope.names.lookup x = some .local := z
        rw [z'] at hk'; rcases hk' with q | q <;> cases q
      . obtain ⟨c', hc'⟩ := h2 _ (mem_lookup hfr) rfl
        have : c' = c := by have := h1 _ _ hc'; rw [hc] at this; exact (Option.some.inj this).symm
        subst this
        refine ⟨?_, c', hc', ?_⟩
        . show (relabel scope X.env).names.lookup x = some .cell \/ (relabel scope X.env).names.lookup x = some .free
          rw [relabel_look, hfr]
          simp only [Option.map_some, Option.some.injEq]
          by_cases hc : (NameKind.free == NameKind.free && X.env.scope.kind == .function && X.env.kindOf x == some .cell) = true
          . left; rw [if_pos hc]
          . right; rw [if_neg hc]
        . obtain ⟨o, ho, hd⟩ := hcell
          exact ⟨o, old _ _ ho, hd⟩
    . unfold Vis at vis
      rw [relabel_look, hno] at vis
      simp at vis
 cell := fun x c e => by
  obtain ⟨v, o, ho, hd⟩ := I.cell x c (h1 x c e)
  exact ⟨v, o, old _ _ ho, hd⟩
 free := I.hok.fresh hC
 freeC := fun x c e => I.freeC x c (h1 x c e)
 pin := fun p hp => nomatch hp
 hok := I.hok.kept old
 len := by
  show (List.replicate T.length none ++ σ).length = (T ++ M).length
  rw [List.length_append, List.length_append, List.length_replicate, hN.len, I.len]
theorem lc_back {C D : Addr} {s' : Shared} {σ' : St} {H' : Hp} {acc : List V} {its : List Value} {n : Nat} (I : Inv X pins σ H s) (I' : Inv (cxLC X (T ++ M) scope cl C s H fp) [] σ' H' s')
 (hf : ∀ b ∈ fp, FpOk X pins H b) (hD : s.heap.objs.size <= D) (hn : H' D = none) (hl : acc.length <= sizeLine) (r : Vals acc its) (hd : s'.heap.get? D = some { cls := .type "list", data := .seq its.toArray n }) :
 Inv X pins σ (upd H' D (.lst acc)) s' := by
 have U : Un (frs X.stack) fp H H' s.heap s'.heap := I'.base
 have neD : ∀ b o, s.heap.get? b = some o -> b ≠ D := fun b o e => Nat.ne_of_lt (Nat.lt_of_lt_of_le (Heap.lt_size e) hD)
 have neT : ∀ b u, H' b = some u -> b ≠ D := fun b u e => ne_of_none e hn
 refine I.call' (ch := fp) I'.os ⟨U.keep, U.slot, fun b o e1 e2 e3 => ?_, U.there, fun b xs e => ?_, fun b o u e => ?_, fun b ps e => ?_⟩ (fun b u e => ?_) I'.bare (fun b hb => ⟨(hf b hb).2.2.2.1, (hf b hb).2.1, (hf b hb).2.2.2.2.1, (hf b hb).2.2.2.2.2⟩)
 . rw [upd_ne (neD b o e1)]; exact U.free b o e1 e2 e3
 . rw [upd_ne (neT b _ (U.tups b xs e))]; exact U.tups b xs e
 . rw [upd_ne (neT b _ (U.frzs b o u e))]; exact U.frzs b o u e
 . obtain ⟨more, q⟩ := U.tbls b ps e
   exact ⟨more, by rw [upd_ne (neT b _ q)]; exact q⟩
 . by_cases hb : b = D
   . subst hb
     rw [upd_same] at e
     cases e
     exact ⟨hl, its, n, r, hd⟩
   . rw [upd_ne hb] at e
     exact (I'.hok b u e).stay (fun c v _ q => q) (fun c q => by rw [upd_ne (neT c _ q)]; exact q) fun c xs q => by rw [upd_ne (neT c _ q)]; exact q
end
theorem codeAny_lc {prog : Program} {w : World} {A : Around} {R : Result -> Shared -> Prop} {s : Shared} {elt target iter : Expr} {ifs : List Expr} {scope : Scope} {pos : Pos} {it acc : Value} {env : Env} (I : Nat -> Shared -> Prop)
 (turn : ∀ n s, I n s -> wpAny (model prog w) A (pyNext it) (fun r s₁ => match r with
  | none => R (.ok .next) s₁
  | some v => wpAny (model prog w) A (letOwnedTupleGo target it v) (fun _ s₁' => wpAny (model prog w) A (assign target env v) (fun _ s₂ =>
   wpAny (model prog w) A (forIn ifs true fun c r => if r = true then do let ok <- isTrue c env (eval c env); pure (ForInStep.yield ok) else pure (ForInStep.yield r)) (fun ok s₃ =>
    if ok = true then wpAny (model prog w) A (eval elt env) (fun x s₄ =>
     wpAny (model prog w) A (call (.builtin "list.append") [acc, x]) (fun _ s₅ => ∃ m, m < n /\ I m s₅) (fun _ _ => False) s₄) (fun _ _ => False) s₃
    else ∃ m, m < n /\ I m s₃) (fun _ _ => False) s₂) (fun _ _ => False) s₁') (fun _ _ => False) s₁) (fun _ _ => False) s)
 (n : Nat) (h : I n s) :
 codeAny (model prog w) A (.compLoop (.ListComp elt [⟨target, iter, ifs, 0⟩] scope pos) 0 it acc env) R s := by
 refine codeAny_loop rfl I (fun n s hI => ?_) n h
 show wpAny _ A ((compTurn (.ListComp elt [⟨target, iter, ifs, 0⟩] scope pos) 0 it acc env).onRaise (fun x => do noteFrame x env; theTreesLotGoes x)) _ _ s
 refine wpAny_noted ?_
 rw [compTurn_list]
 refine wpAny_bind (wpAny_standAt (wpAny_bind (wpAny_mono (turn n s hI) (fun r s₁ h₁ => ?_) fun _ _ h' => h'.elim)))
 cases r with
 | none => exact wpAny_pure h₁
 | some v =>
   refine wpAny_bind (wpAny_mono h₁ (fun _ s₁' h₁' => ?_) fun _ _ h' => h'.elim)
   refine wpAny_bind (wpAny_mono h₁' (fun _ s₂ h₂ => wpAny_bind (wpAny_mono h₂ (fun ok s₃ h₃ => ?_) fun _ _ h' => h'.elim)) fun _ _ h' => h'.elim)
   cases ok with
   | false => exact wpAny_pure ⟨rfl, h₃⟩
   | true =>
     exact wpAny_bind (wpAny_bind (wpAny_mono h₃ (fun x s₄ h₄ => wpAny_bind (wpAny_mono h₄ (fun _ s₅ h₅ => wpAny_pure (wpAny_pure ⟨rfl, h₅⟩)) fun _ _ h' => h'.elim)) fun _ _ h' => h'.elim))
def PIf (X : Cx) (ifs : List Expr) (t : TT) : Prop :=
 ∀ (pins : List (Addr × Obj)) (s : Shared) (σ : St) (H : Hp) (Q : Bool -> Hp -> Prop), Inv X pins σ H s -> t σ H Q ->
   wpAny (model X.prog X.w) X.A (forIn ifs true fun c r => if r = true then do let ok <- isTrue c X.env (eval c X.env); pure (ForInStep.yield ok) else pure (ForInStep.yield r)) (TP X pins σ Q) X.xe s
def tYes : TT := fun _ H Q => Q true H
theorem pif_nil {X : Cx} : PIf X [] tYes := fun _ _ _ H _ I h => wpAny_tests_nil ⟨H, I, h⟩
theorem pif_one {X : Cx} {c : Expr} {t : TT} (h : PT X c t) : PIf X [c] t := fun pins s σ H Q I q => wpAny_tests_one (h pins s σ H Q I q)
def LCW (k : Nat) (g : TG) (tc : TT) (te : TE) (Fin : List V -> Hp -> Prop) (σ : St) (J : It) (H1 : Hp) : Prop :=
 ∃ W : Nat -> Nat -> List V -> Hp -> Prop, (∃ m, W 0 m [] H1) /\ ∀ i m acc H, W i m acc H ->
   (J.stop i H /\ Fin acc H) \/ (J.go i H /\ acc.length < sizeLine /\ ∀ x H', J.yld i H x H' -> g x (List.replicate k none ++ σ) H' fun σ2 H2 => tc σ2 H2 fun b H3 =>
    if b = true then te σ2 H3 fun y H4 => ∃ m', m' < m /\ W (i + 1) m' (acc ++ [y]) H4 else ∃ m', m' < m /\ W (i + 1) m' acc H3)
section
variable {X : Cx} {pins : List (Addr × Obj)} {σ : St} {H : Hp} {s : Shared} {T M : List Str} {scope : Scope} {cl : List (Str × Addr)} {fp : List Addr} {g : TG} {tc : TT} {te : TE} {tg elt iter : Expr} {ifs : List Expr} {pos : Pos}
theorem Inv.forget {X : Cx} {pins : List (Addr × Obj)} {σ σ' : St} {H : Hp} {s : Shared} (I : Inv X pins σ' H s) (k : Nat) (hk : k + σ.length = σ'.length) (h : σ'.drop k = σ) : Inv X pins (List.replicate k none ++ σ) H s := by
 refine I.weak (by simp [hk]) (fun i v e => ?_)
 by_cases hi : i < k
 . rw [List.getElem?_append_left (by simpa using hi), List.getElem?_replicate, if_pos hi] at e; cases e
 . rw [List.getElem?_append_right (by simpa using hi), List.length_replicate, <- h, List.getElem?_drop] at e
   have : k + (i - k) = i := by omega
   rw [this] at e; exact e
theorem lc_run {it : Addr} {tn : Nat -> Heap -> Prop} {J : It} {RR : Value -> Addr -> Result -> Shared -> Prop} {Fin : List V -> Hp -> Prop} {E : Value -> Shared -> Prop}
 (hN : LCNames X T M scope) (hcalm : X.calm = true) (h1 : ∀ x c, cl.lookup x = some c -> X.env.cells.lookup x = some c) (h2 : ∀ x ∈ scope.names, x.2 = .free -> ∃ c, cl.lookup x.1 = some c)
 (hg : ∀ cl C s H fp, PG (cxLC X (T ++ M) scope cl C s H fp) tg g) (hgk : ∀ v H Q, g v (List.replicate T.length none ++ σ) H Q -> g v (List.replicate T.length none ++ σ) H fun σ2 H2 => Q σ2 H2 /\ T.length + σ.length = σ2.length /\ σ2.drop T.length = σ)
 (hc : ∀ cl C s H fp, PIf (cxLC X (T ++ M) scope cl C s H fp) ifs tc) (he : ∀ cl C s H fp, PE (cxLC X (T ++ M) scope cl C s H fp) elt te)
 (I : Inv X pins σ H s) (Tn : Turn X.prog X.w X.K tg J fp it tn) (st : tn 0 s.heap) (hf : ∀ b ∈ fp, FpOk X pins H b) (hW : LCW T.length g tc te Fin σ J H)
 (hR : ∀ D C s' H' acc m, s.heap.objs.size <= D -> s.heap.objs.size <= C -> C ≠ D -> s'.heap.Ns C m -> H' C = none -> H' D = none -> Inv X pins σ (upd H' D (.lst acc)) s' -> Fin acc H' -> RR (.ref D) C (.ok .next) s') :
 wpAny (model X.prog X.w) X.A (newList []) (fun acc s₃ => wpAny (model X.prog X.w) X.A (newFunctionEnv scope X.env.globals cl [] X.env.qual none .none (some X.env)) (fun cenv s₄ =>
  codeAny (model X.prog X.w) X.A (.compStart (.ListComp elt [⟨tg, iter, ifs, 0⟩] scope pos) 0 (.ref it) acc { cenv with scope := relabel scope X.env }) (RR acc cenv.locals) s₄) E s₃) E s := by
 refine wpAny_newObj_type (wpAny_newFunctionEnv hN.cell (by intro y hy; simp at hy) (fun h₁ hns₁ hsb₁ => ?_) hN.kind)
 dsimp only at hns₁ hsb₁ ⊢
 generalize hH2 : s.heap.push { cls := .type "list", dict := none, data := .seq ([] : List Value).toArray } = H2 at hns₁ hsb₁ ⊢
 have hC : H2.objs.size = s.heap.objs.size + 1 := by rw [<- hH2, Heap.size_push]
 have hDC : s.heap.objs.size ≠ H2.objs.size := by rw [hC]; exact Nat.ne_of_lt (Nat.lt_succ_self _)
 have hCle : s.heap.objs.size <= H2.objs.size := by rw [hC]; exact Nat.le_succ _
 have hfe : ∀ b ∈ fp, b < s.heap.objs.size := fun b hb => by obtain ⟨o, ho, _⟩ := Tn.obj _ _ st b hb; exact Heap.lt_size ho
 have old : ∀ b o, s.heap.get? b = some o -> h₁.get? b = some o := fun b o e => hsb₁.extBut b o (Nat.ne_of_lt (Nat.lt_of_lt_of_le (Heap.lt_size e) hCle)) (Heap.get?_push_of_some _ (hH2 ▸ Heap.get?_push_of_some _ e))
 have hacc : h₁.PlainList s.heap.objs.size #[] := ⟨_, hsb₁.extBut _ _ hDC (Heap.get?_push_of_some _ (hH2 ▸ Heap.get?_push_size _ rfl))⟩
 generalize hDe : s.heap.objs.size = D at *
 generalize hCe : H2.objs.size = C at *
 have I0 : Inv (cxLC X (T ++ M) scope cl C s H fp) [] (List.replicate T.length none ++ σ) H { s with heap := h₁, toks := s.toks + ([] : List (Str × Value)).length } :=
  lc_start I hN h1 h2 (by rw [hDe]; exact hCle) hf (by rw [hDe]; exact hfe) hns₁ old
 have st0 : tn 0 h₁ := Tn.keep _ _ _ st fun b _ o e => old b o e
 obtain ⟨W, ⟨m0, w0⟩, turn⟩ := hW
 have nDf : ∀ b ∈ fp, b ≠ D := fun b hb => Nat.ne_of_lt (hfe b hb)
 have stat : ∀ {H' : Hp} {pl : List (Addr × Obj)}, (∀ b ∈ fp, H' b = none) -> (∀ p ∈ pl, p.1 = D) -> ∀ b ∈ fp, FpOk (cxLC X (T ++ M) scope cl C s H fp) pl H' b := fun {H' pl} hn hp b hb => by
  have ok := I0.ok
  refine ⟨hn b hb, (ok.exf b hb).1, ok.exfs b hb, .inl hb, (ok.exf b hb).2, fun p hq => ?_⟩
  have hq' : p ∈ pl := hq
  rw [hp p hq']; exact Ne.symm (nDf b hb)
 have loop : codeAny (model X.prog X.w) X.A (.compLoop (.ListComp elt [⟨tg, iter, ifs, 0⟩] scope pos) 0 (.ref it) (.ref D) (compEnvC scope cl C X.env)) (RR (.ref D) C) { s with heap := h₁, toks := s.toks + ([] : List (Str × Value)).length } := by
  refine codeAny_lc (fun n s' => ∃ i acc H' its, Inv (cxLC X (T ++ M) scope cl C s H fp) [] (List.replicate T.length none ++ σ) H' s' /\ tn i s'.heap /\ (∀ b ∈ fp, H' b = none) /\ s'.heap.PlainList D its /\ H' D = none /\ Vals acc its.toList /\ acc.length <= sizeLine /\ W i n acc H') ?_ m0
   ⟨0, [], H, #[], I0, st0, fun b hb => (hf b hb).1, hacc, I.hok.fresh (by rw [hDe]; exact Nat.le_refl _), .nil, Nat.zero_le _, w0⟩
  rintro n s3 ⟨i, acc, H3, its, I3, st3, fr3, ⟨nn, ho⟩, hD3, hv, hlen, w3⟩
  have pinD : ∀ {H'} {s'} {σ'} {o : Obj}, Inv (cxLC X (T ++ M) scope cl C s H fp) [] σ' H' s' -> s'.heap.get? D = some o -> (∀ v, o.data ≠ .cell v) -> H' D = none -> Inv (cxLC X (T ++ M) scope cl C s H fp) [(D, o)] σ' H' s' := fun {H' s' σ' o} I' e d hn => by
   refine I'.pins_of fun p hp => ?_
   have e' : p = (D, o) := by simpa using hp
   subst e'
   refine ⟨e, hn, hDC, fun z => ?_, d⟩
   have z' : D ∈ frs X.stack := z
   obtain ⟨_, o', ho', _⟩ := I.stack.mem z'
   exact absurd (Heap.lt_size ho') (by rw [hDe]; exact Nat.lt_irrefl _)
  have I3' := pinD I3 ho (fun v z => by cases z) hD3
  rcases turn i n acc H3 w3 with ⟨stop, fin⟩ | ⟨go, hl, step⟩
  . refine thn (Tn.done (cxLC X (T ++ M) scope cl C s H fp) rfl rfl rfl hcalm i _ s3 _ H3 _ I3' (stat fr3 (by simp)) st3 stop) fun r s4 ⟨hr, I4⟩ => ?_
    subst hr
    have e4 := (I4.pin (D, _) (List.mem_append_right _ List.mem_cons_self)).1
    have I4' : Inv (cxLC X (T ++ M) scope cl C s H fp) [] (List.replicate T.length none ++ σ) H3 s4 := I4.pins_of fun p hp => nomatch hp
    obtain ⟨m4, n4, _⟩ := I4'.loc
    exact hR D C s4 H3 acc m4 (Nat.le_refl _) hCle (Ne.symm hDC) n4 I4'.free hD3 (lc_back I I4' hf (by rw [hDe]; exact Nat.le_refl _) hD3 hlen hv (by simpa using e4)) fin
  . refine thn (Tn.item (cxLC X (T ++ M) scope cl C s H fp) rfl rfl rfl hcalm i _ s3 _ H3 _ I3' (stat fr3 (by simp)) st3 go) fun r s4 ⟨u, hr, h4⟩ => ?_
    subst hr
    refine thn h4 fun _ s5 ⟨x, H5, I5, r5, y5, st5, fr5⟩ => ?_
    have I5' := I5.pinned (stat fr5 (by simp)) (Tn.obj _ _ st5)
    refine thn (hg _ _ _ _ _ _ s5 _ H5 x u _ I5' r5 (hgk _ _ _ (step x H5 y5))) fun _ s6 ⟨σ6, H6, I6, q6, q6a, q6b⟩ => ?_
    refine thn (hc _ _ _ _ _ _ s6 σ6 H6 _ I6 q6) fun b s7 ⟨H7, I7, q7⟩ => ?_
    have rest : ∀ {s8 : Shared} {H8 : Hp}, Inv (cxLC X (T ++ M) scope cl C s H fp) ([(D, _)] ++ pinsAt fp s5.heap) σ6 H8 s8 -> tn (i + 1) s8.heap /\ (∀ b ∈ fp, H8 b = none) /\ s8.heap.PlainList D its /\ H8 D = none /\ Inv (cxLC X (T ++ M) scope cl C s H fp) [] (List.replicate T.length none ++ σ) H8 s8 := fun {s8 H8} I8 => by
     refine ⟨Tn.keep _ _ _ st5 fun b hb o e => (I8.pin (b, o) (List.mem_append_right _ (List.mem_append_right _ (mem_pinsAt hb e)))).1, fun b hb => ?_, ⟨nn, (I8.pin (D, _) (List.mem_append_right _ (List.mem_append_left _ List.mem_cons_self))).1⟩, (I8.pin (D, _) (List.mem_append_right _ (List.mem_append_left _ List.mem_cons_self))).2.1, (I8.forget T.length q6a q6b).pins_of fun p hp => nomatch hp⟩
     obtain ⟨o, e, d⟩ := Tn.obj _ _ st5 b hb
     exact (I8.pin (b, o) (List.mem_append_right _ (List.mem_append_right _ (mem_pinsAt hb e)))).2.1
    cases b with
    | false =>
      obtain ⟨m', hm, w7⟩ := q7
      obtain ⟨a1, a2, a3, a4, a5⟩ := rest I7
      exact ⟨m', hm, i + 1, acc, H7, its, a5, a1, a2, a3, a4, hv, hlen, w7⟩
    | true =>
      refine thn (he _ _ _ _ _ _ s7 σ6 H7 _ I7 q7) fun y s8 ⟨yv, H8, I8, r8, m', hm, w8⟩ => ?_
      obtain ⟨a1, a2, a3, a4, a5⟩ := rest I8
      have hsz : its.size <= sizeLine := by have := hv.length; simp at this; omega
      refine wpAny_list_append_plain (hsz := hsz) a3 fun h9 hl9 hs9 => ?_
      refine ⟨m', hm, i + 1, acc ++ [yv], H8, its.push y, ?_, ?_, a2, hl9, a4, ?_, by simp; omega, w8⟩
      . exact a5.turned (t' := s8.toks) (it := D) (fun b o hb e => (hs9.2 b hb).trans e) a4 hDC (.inr (by show s.heap.objs.size <= D; rw [hDe]; exact Nat.le_refl _)) (fun x c e z => by
         obtain ⟨v, o, ho, _⟩ := I.cell x c (h1 x c e)
         exact absurd (Heap.lt_size ho) (by rw [hDe, z]; exact Nat.lt_irrefl _)) (fun p hp => nomatch hp)
      . exact Tn.keep _ _ _ a1 fun b hb o e => (hs9.2 b (nDf b hb)).trans e
      . simpa using Vals.append hv (.cons r8 .nil)
 exact codeAny_compStart_list loop (Tn.self _ _ _ _ _ st0 loop)
end
def GOwn (k : Nat) (g : TG) : Prop := ∀ v (τ σ : St) H Q, τ.length = k -> g v (τ ++ σ) H Q -> g v (τ ++ σ) H fun σ2 H2 => Q σ2 H2 /\ ∃ τ', τ'.length = k /\ σ2 = τ' ++ σ
def GsOwn (k : Nat) (g : TGs) : Prop := ∀ vs (τ σ : St) H Q, τ.length = k -> g vs (τ ++ σ) H Q -> g vs (τ ++ σ) H fun σ2 H2 => Q σ2 H2 /\ ∃ τ', τ'.length = k /\ σ2 = τ' ++ σ
theorem gown_name {k i : Nat} (h : i < k) : GOwn k (gName i) := fun v τ σ H Q hl q => by
 have e : (τ ++ σ).set i (some v) = τ.set i (some v) ++ σ := List.set_append_left _ _ (by omega)
 exact ⟨q, τ.set i (some v), by simp [hl], e⟩
theorem gsown_nil {k : Nat} : GsOwn k gNil := fun vs τ σ H Q hl ⟨e, q⟩ => ⟨e, q, τ, hl, rfl⟩
theorem gsown_cons {k i : Nat} {u : TGs} (h : i < k) (h2 : GsOwn k u) : GsOwn k (gCons (gName i) u) := fun vs τ σ H Q hl ⟨v, r, e, q⟩ => by
 have e1 : (τ ++ σ).set i (some v) = τ.set i (some v) ++ σ := List.set_append_left _ _ (by omega)
 refine ⟨v, r, e, ?_⟩
 show u r ((τ ++ σ).set i (some v)) H _
 rw [e1]
 have q' : u r ((τ ++ σ).set i (some v)) H Q := q
 rw [e1] at q'
 exact h2 r _ σ H Q (by simp [hl]) q'
theorem gown_tup {K : PySem.W.Frag} {k n : Nat} {u : TGs} (h : GsOwn k u) : GOwn k (gTup K n u) := fun v τ σ H Q hl ⟨a, xs, e, hq, hn, q⟩ => ⟨a, xs, e, hq, hn, h xs τ σ H Q hl q⟩
def LCFin (Q : VK) (acc : List V) (H : Hp) : Prop := ∀ p, H p = none -> Q (.ref p) (upd H p (.lst acc))
def tLC (k : Nat) (wi : TI) (g : TG) (tc : TT) (te : TE) : TE := fun σ H Q => wi σ H fun J H1 => LCW k g tc te (LCFin Q) σ J H1
section
variable {X : Cx} {T M : List Str} {scope : Scope} {g : TG} {tc : TT} {te : TE} {wi : TI} {tg elt iter : Expr} {ifs : List Expr} {pos : Pos}
theorem pe_lc (hN : LCNames X T M scope) (hcalm : X.calm = true) (hi : PI X tg iter wi) (hg : ∀ cl C s H fp, PG (cxLC X (T ++ M) scope cl C s H fp) tg g) (hgo : GOwn T.length g)
 (hc : ∀ cl C s H fp, PIf (cxLC X (T ++ M) scope cl C s H fp) ifs tc) (he : ∀ cl C s H fp, PE (cxLC X (T ++ M) scope cl C s H fp) elt te)
 (hs : ∀ x, foldedSetIterable iter X.env x = pure x := by intro _; rfl) : PE X (.ListComp elt [⟨tg, iter, ifs, 0⟩] scope pos) (tLC T.length wi g tc te) := by
 intro pins s σ H Q I h
 obtain ⟨cl, hcl, h1, h2⟩ := closure_ok (scope := scope) (env := X.env) fun x hx hf => I.ok.has x.1 (hN.free x hx hf)
 rw [eval_ListComp]
 refine wpAny_comprehension_free (use := none) rfl hs hcl hN.kind hN.names (thn (hi pins s σ H _ I h) fun xv s1 h1' => thn h1' fun itv s2 h2' => ?_)
 obtain ⟨it, fp, tn, J, H2, e, I2, Tn, st, hf, hW⟩ := h2'
 subst e
 refine lc_run (RR := fun acc C => compPost (model X.prog X.w) X.A X.xe none (EP X pins σ Q) acc C) hN hcalm h1 h2 hg (fun v H Q q => ?_) hc he I2 Tn st hf hW ?_
 . have := hgo v (List.replicate T.length none) σ H Q (by simp) q
   refine (by
    have e : (fun (σ2 : St) (H2 : Hp) => Q σ2 H2 /\ T.length + σ.length = σ2.length /\ σ2.drop T.length = σ) = fun σ2 H2 => Q σ2 H2 /\ ∃ τ' : St, τ'.length = T.length /\ σ2 = τ' ++ σ := by
     funext σ2 H2
     refine propext ⟨fun ⟨a, b, c⟩ => ⟨a, σ2.take T.length, by rw [List.length_take]; omega, by rw [<- c, List.take_append_drop]⟩, fun ⟨a, τ', b, c⟩ => ⟨a, by rw [c, List.length_append, b], by rw [c, <- b, List.drop_left]⟩⟩
    rw [e]; exact this)
 . intro D C s' H' acc m hD hC hne hn hHC hHD Ib fin
   refine ⟨m, hn, fun h' hs' => ⟨.ref D, _, ?_, rfl, fin D hHD⟩⟩
   exact Ib.turned (t' := s'.toks) (it := C) (fun b o hb e => (hs'.2 b hb).trans e) (by rw [upd_ne hne]; exact hHC) (Nat.ne_of_gt (Nat.lt_of_lt_of_le I2.lt hC)) (.inr (Nat.le_trans I2.sz hC)) (fun x c e z => by
    obtain ⟨v, q⟩ := I2.cell x c e
    exact absurd (Nat.lt_of_lt_of_le q.lt (by rw [z]; exact hC)) (Nat.lt_irrefl _)) (fun p hp z => absurd (Nat.lt_of_lt_of_le (Heap.lt_size (I2.pin p hp).1) (by rw [z]; exact hC)) (Nat.lt_irrefl _))
theorem ps_lc {i : Nat} {y : Str} {py spos : Pos} (hnd : X.N.Nodup) (hi' : X.N[i]? = some y) (hy : Loc X.env.scope y) (hN : LCNames X T M scope) (hcalm : X.calm = true) (hi : PI X tg iter wi) (hg : ∀ cl C s H fp, PG (cxLC X (T ++ M) scope cl C s H fp) tg g) (hgo : GOwn T.length g)
 (hc : ∀ cl C s H fp, PIf (cxLC X (T ++ M) scope cl C s H fp) ifs tc) (he : ∀ cl C s H fp, PE (cxLC X (T ++ M) scope cl C s H fp) elt te)
 (hsw : swapsWith (.ListComp elt [⟨tg, iter, ifs, 0⟩] scope pos) (some (.Name y py)) spos.line X.env = pure true)
 (hs : ∀ x, foldedSetIterable iter X.env x = pure x := by intro _; rfl) (hf' : X.fn y = true \/ X.env.scope.names.lookup y = some .local := by first | exact .inl rfl | exact .inr rfl | assumption) :
 PS X (.Assign [.Name y py] (.ListComp elt [⟨tg, iter, ifs, 0⟩] scope pos) spos) (tAsg (tLC T.length wi g tc te) (gName i)) := by
 intro pins s σ H D' I h
 have h : tLC T.length wi g tc te σ H fun x H1 => D'.nx (σ.set i (some x)) H1 := h
 obtain ⟨cl, hcl, h1, h2⟩ := closure_ok (scope := scope) (env := X.env) fun x hx hf => I.ok.has x.1 (hN.free x hx hf)
 rw [exec_Assign_Name_used _ _ _ _ hsw]
 refine wpAny_bind (wpAny_standAt (wpAny_bind ?_))
 show wpAny _ X.A (do let _ <- comprehension (.ListComp elt [⟨tg, iter, ifs, 0⟩] scope pos) scope X.env _ (newList []) false (eval iter X.env) (some (assign (.Name y py) X.env))) _ _ s
 refine wpAny_bind (wpAny_mono (wpAny_comprehension_free (use := some (assign (.Name y py) X.env)) (Q := fun _ s' => SP X pins D' .next s') rfl hs hcl hN.kind hN.names
  (thn (hi pins s σ H _ I h) fun xv s1 h1' => thn h1' fun itv s2 h2' => ?_)) (fun _ s' hq => wpAny_pure (wpAny_pure hq)) fun _ _ e => e)
 obtain ⟨it, fp, tn, J, H2, e, I2, Tn, st, hf, hW⟩ := h2'
 subst e
 refine lc_run (RR := fun acc C => compPost (model X.prog X.w) X.A X.xe (some (assign (.Name y py) X.env)) (fun _ s' => SP X pins D' .next s') acc C) hN hcalm h1 h2 hg (fun v H Q q => ?_) hc he I2 Tn st hf hW ?_
 . have := hgo v (List.replicate T.length none) σ H Q (by simp) q
   refine (by
    have e : (fun (σ2 : St) (H2 : Hp) => Q σ2 H2 /\ T.length + σ.length = σ2.length /\ σ2.drop T.length = σ) = fun σ2 H2 => Q σ2 H2 /\ ∃ τ' : St, τ'.length = T.length /\ σ2 = τ' ++ σ := by
     funext σ2 H2
     refine propext ⟨fun ⟨a, b, c⟩ => ⟨a, σ2.take T.length, by rw [List.length_take]; omega, by rw [<- c, List.take_append_drop]⟩, fun ⟨a, τ', b, c⟩ => ⟨a, by rw [c, List.length_append, b], by rw [c, <- b, List.drop_left]⟩⟩
    rw [e]; exact this)
 . intro D C s' H' acc m hD hC hne hn hHC hHD Ib fin
   show wpAny _ X.A (assign (.Name y py) X.env (.ref D)) _ _ _
   refine wpAny_assign_Name (store_ok2 Ib hnd hi' hy (v := .ref D) rfl (fun s3 I3 ⟨a, sb, ha⟩ => ?_) hf')
   have hCL : C ≠ X.env.locals := Nat.ne_of_gt (Nat.lt_of_lt_of_le I2.lt hC)
   have hCc : ∀ x c, X.env.cells.lookup x = some c -> c ≠ C := fun x c e z => by
    obtain ⟨v, q⟩ := I2.cell x c e
    exact absurd (Nat.lt_of_lt_of_le q.lt (by rw [z]; exact hC)) (Nat.lt_irrefl _)
   have hCa : C ≠ a := by
    rcases ha with rfl | ha
    . exact hCL
    . exact Ne.symm (hCc _ _ ha)
   refine ⟨m, hn.sameBut sb hCa, fun h' hs' => ⟨_, _, ?_, fin D hHD⟩⟩
   exact I3.turned (t' := s3.toks) (it := C) (fun b o hb e => (hs'.2 b hb).trans e) (by rw [upd_ne hne]; exact hHC) hCL (.inr (Nat.le_trans I2.sz hC)) hCc (fun p hp z => absurd (Nat.lt_of_lt_of_le (Heap.lt_size (I2.pin p hp).1) (by rw [z]; exact hC)) (Nat.lt_irrefl _))
end
end L2
namespace L2
open PySem PySem.Spec PyProof.Rows PySem.W
mutual
def Imm : PyData -> Bool
 | .none => true
 | .bool _ => true
 | .int _ => true
 | .str _ => true
 | .tuple ds => ImmAll ds
 | .list _ => false
 | .dict _ => false
def ImmAll : List PyData -> Bool
 | [] => true
 | d :: ds => Imm d && ImmAll ds
end
theorem immAll_iff : ∀ {ds : List PyData}, ImmAll ds = true ↔ ∀ d ∈ ds, Imm d = true
 | [] => by simp [ImmAll]
 | d :: ds => by simp [ImmAll, immAll_iff (ds := ds)]
theorem immAll_append {ds es : List PyData} (h1 : ImmAll ds = true) (h2 : ImmAll es = true) : ImmAll (ds ++ es) = true := by
 rw [immAll_iff] at *
 intro d hd
 rcases List.mem_append.mp hd with h | h
 . exact h1 d h
 . exact h2 d h
theorem immAll_map {α : Type} {f : α -> PyData} (h : ∀ x, Imm (f x) = true) (xs : List α) : ImmAll (xs.map f) = true := by
 rw [immAll_iff]
 intro d hd
 obtain ⟨x, _, rfl⟩ := List.mem_map.mp hd
 exact h x
structure Mv (S : List Addr) (H H' : Hp) : Prop where
 kp : ∀ a o, a ∉ S -> H a = some o -> H' a = some o
 tp : ∀ a xs, H a = some (.tup xs) -> H' a = some (.tup xs)
 dm : ∀ a, H' a = none -> H a = none
theorem Mv.refl {S : List Addr} {H : Hp} : Mv S H H := ⟨fun _ _ _ h => h, fun _ _ h => h, fun _ h => h⟩
theorem Same.mv {S : List Addr} {H H' : Hp} (s : Same H H') : Mv S H H' := ⟨fun a o _ h => s a o h, fun a xs h => s a _ h, fun a h => by
 cases e : H a with
 | none => rfl
 | some o => rw [s a o e] at h; cases h⟩
theorem Mv.trans {S : List Addr} {H H1 H2 : Hp} (m : Mv S H H1) (m2 : Mv S H1 H2) : Mv S H H2 := ⟨fun a o n h => m2.kp a o n (m.kp a o n h), fun a xs h => m2.tp a xs (m.tp a xs h), fun a h => m.dm a (m2.dm a h)⟩
theorem Mv.step {S S1 : List Addr} {H H1 H2 : Hp} (m : Mv S H H1) (m2 : Mv S1 H1 H2) (hs : ∀ a ∈ S1, a ∈ S \/ H a = none) : Mv S H H2 := by
 refine ⟨fun a o n h => ?_, fun a xs h => m2.tp a xs (m.tp a xs h), fun a h => m.dm a (m2.dm a h)⟩
 refine m2.kp a o (fun z => ?_) (m.kp a o n h)
 rcases hs a z with q | q
 . exact n q
 . rw [q] at h; cases h
theorem Mv.stepS {S : List Addr} {H H1 H2 : Hp} (m : Mv S H H1) (s : Same H1 H2) : Mv S H H2 := m.trans s.mv
theorem Mv.at {S : List Addr} {H H' : Hp} {a : Addr} {o : HO} (m : Mv S H H') (n : a ∉ S) (h : H a = some o) : H' a = some o := m.kp a o n h
theorem Mv.none {S : List Addr} {H H' : Hp} {a : Addr} (m : Mv S H H') (h : H' a = none) : H a = none := m.dm a h
theorem Same.none {H H' : Hp} {a : Addr} (m : Same H H') (h : H' a = none) : H a = none := (m.mv (S := [])).dm a h
theorem Mv.of_upd {H : Hp} {p : Addr} {o u : HO} (h : H p = some u) (nt : ∀ xs, u ≠ .tup xs) : Mv [p] H (upd H p o) := ⟨fun a v n e => by
 rw [upd_ne (fun z => n (by simp [z]))]; exact e, fun a xs e => by
 rw [upd_ne (fun z => by subst z; rw [h] at e; exact nt xs (Option.some.inj e))]; exact e, fun a e => by
 by_cases z : a = p
 . subst z; rw [upd_same] at e; cases e
 . rw [upd_ne z] at e; exact e⟩
mutual
theorem Dv.imm {H H' : Hp} (t : ∀ a xs, H a = some (.tup xs) -> H' a = some (.tup xs)) : ∀ {v : V} {d : PyData}, Dv H v d -> Imm d = true -> Dv H' v d
 | _, _, .non, _ => .non
 | _, _, .bl b, _ => .bl b
 | _, _, .int i, _ => .int i
 | _, _, .str x, _ => .str x
 | _, _, .tup h r, c => .tup (t _ _ h) (Dvs.imm t r (by simpa [Imm] using c))
 | _, _, .lst h r, c => by simp [Imm] at c
 | _, _, .dct h r, c => by simp [Imm] at c
theorem Dvs.imm {H H' : Hp} (t : ∀ a xs, H a = some (.tup xs) -> H' a = some (.tup xs)) : ∀ {v : List V} {d : List PyData}, Dvs H v d -> ImmAll d = true -> Dvs H' v d
 | _, _, .nil, _ => .nil
 | _, _, .cons h r, c => by
   have c' := c
   simp only [ImmAll, Bool.and_eq_true] at c'
   exact .cons (Dv.imm t h c'.1) (Dvs.imm t r c'.2)
end
theorem Mv.dat {S : List Addr} {H H' : Hp} {v : V} {d : PyData} (m : Mv S H H') (i : Imm d = true) (h : Dv H v d) : Dv H' v d := h.imm m.tp i
theorem Mv.dats {S : List Addr} {H H' : Hp} {v : List V} {d : List PyData} (m : Mv S H H') (i : ImmAll d = true) (h : Dvs H v d) : Dvs H' v d := h.imm m.tp i
def LAt (H : Hp) (p : Addr) (ds : List PyData) : Prop := ∃ xs, H p = some (.lst xs) /\ Dvs H xs ds /\ ImmAll ds = true
theorem LAt.dv {H : Hp} {p : Addr} {ds : List PyData} (h : LAt H p ds) : Dv H (.ref p) (.list ds) := let ⟨_, e, d, _⟩ := h; .lst (.of e) d
theorem LAt.keeps {H H' : Hp} {p : Addr} {ds : List PyData} (s : Same H H') (h : LAt H p ds) : LAt H' p ds := let ⟨xs, e, d, i⟩ := h; ⟨xs, s _ _ e, d.keeps s, i⟩
theorem LAt.mv {S : List Addr} {H H' : Hp} {p : Addr} {ds : List PyData} (m : Mv S H H') (n : p ∉ S) (h : LAt H p ds) : LAt H' p ds := let ⟨xs, e, d, i⟩ := h; ⟨xs, m.at n e, m.dats i d, i⟩
theorem LAt.ne {H : Hp} {p q : Addr} {ds : List PyData} (h : LAt H p ds) (hn : H q = none) : p ≠ q := let ⟨_, e, _, _⟩ := h; ne_of_none e hn
theorem lat_upd {H : Hp} {p : Addr} {xs : List V} {ds : List PyData} (hn : H p = none) (d : Dvs H xs ds) (i : ImmAll ds = true) : LAt (upd H p (.lst xs)) p ds := ⟨xs, upd_same, d.keeps (same_upd hn), i⟩
theorem notin1 {p q : Addr} (h : p ≠ q) : p ∉ [q] := by simpa using h
theorem small {n m : Nat} (h : n <= m) (hm : m <= 4000 := by decide) : n <= sizeLine := Nat.le_trans h (Nat.le_trans hm (by decide))
theorem smaller {n : Nat} (h : n <= 4000) : n < sizeLine := Nat.lt_of_le_of_lt h (by decide)
section
variable {σ : St} {H : Hp} {Q : VK} {D : Ends} {K : PySem.W.Frag} {p : Addr} {ds : List PyData}
theorem r_bm {T : String} {r : V -> List V -> Hp -> VK -> Prop} {to : TE} {t : TA} (h : to σ H fun x H1 => tyV K T x H1 /\ t σ H1 fun xs H2 => r x xs H2 Q) : tBM K T r to t σ H Q := h
theorem r_bm0 {T : String} {r : V -> List V -> Hp -> VK -> Prop} {to : TE} (h : to σ H fun x H1 => tyV K T x H1 /\ r x [] H1 Q) : tBM0 K T r to σ H Q := h
theorem r_tyL {R : Prop} (hp : LAt H p ds) (h : R) : tyV K "list" (.ref p) H /\ R := let ⟨xs, e, _, _⟩ := hp; ⟨.inl ⟨rfl, xs, SqL.of e⟩, h⟩
theorem r_app {y : V} {d : PyData} (hp : LAt H p ds) (hl : ds.length <= 4000) (hy : Dv H y d) (hi : Imm d = true) (h : ∀ H2, Mv [p] H H2 -> LAt H2 p (ds ++ [d]) -> Q .non H2) : rAppend (.ref p) [y] H Q := by
 obtain ⟨xs, e, dv, i⟩ := hp
 have m : Mv [p] H (upd H p (.lst (xs ++ [y]))) := .of_upd e (by intro _ z; cases z)
 refine ⟨p, xs, y, rfl, rfl, e, by rw [dv.length]; exact smaller hl, h _ m ⟨_, upd_same, m.dats (immAll_append i (by simp [ImmAll, hi])) (dv.append (.cons hy .nil)), immAll_append i (by simp [ImmAll, hi])⟩⟩
theorem r_lstA {xs : List V} (hl : xs.length <= sizeLine) (hd : Dvs H xs ds) (hi : ImmAll ds = true) (k : ∀ p H2, Same H H2 -> H p = none -> LAt H2 p ds -> Q (.ref p) H2) : LstP xs H Q :=
 ⟨hl, ds, hd, fun p H2 s n e d _ => k p H2 s n ⟨xs, e, d, hi⟩⟩
end
mutual
theorem Dv.fn {H : Hp} : ∀ {v : V} {d e : PyData}, Dv H v d -> Dv H v e -> Imm d = true -> d = e
 | _, _, _, .non, h, _ => by cases h; rfl
 | _, _, _, .bl b, h, _ => by cases h; rfl
 | _, _, _, .int i, h, _ => by cases h; rfl
 | _, _, _, .str x, h, _ => by cases h; rfl
 | _, _, _, .tup h r, h2, c => by
   cases h2 with
   | tup h' r' =>
     have c' := (by simpa [Imm] using c : ImmAll _ = true)
     rw [h] at h'
     cases h'
     rw [Dvs.fn r r' c']
   | lst h' r' =>
     rcases h' with h' | ⟨o, h'⟩ <;> rw [h] at h' <;> cases h'
   | dct h' r' => rw [h] at h'; cases h'
 | _, _, _, .lst h r, _, c => by simp [Imm] at c
 | _, _, _, .dct h r, _, c => by simp [Imm] at c
theorem Dvs.fn {H : Hp} : ∀ {v : List V} {d e : List PyData}, Dvs H v d -> Dvs H v e -> ImmAll d = true -> d = e
 | _, _, _, .nil, h, _ => by cases h; rfl
 | _, _, _, .cons h r, h2, c => by
   have c' := c
   simp only [ImmAll, Bool.and_eq_true] at c'
   cases h2 with
   | cons h' r' => rw [Dv.fn h h' c'.1, Dvs.fn r r' c'.2]
end
theorem Dvs.perm {α : Type} {H : Hp} {g : α -> PyData} {xs ys : List V} (p0 : ys.Perm xs) : ∀ {cs : List α}, Dvs H xs (cs.map g) -> ∃ cs' : List α, cs'.Perm cs /\ Dvs H ys (cs'.map g) := by
 have p := p0.symm
 clear p0
 induction p with
 | nil => intro cs h; exact ⟨cs, .refl _, h⟩
 | cons x _ ih =>
   intro cs h
   cases cs with
   | nil => cases h
   | cons c cs =>
     cases h with
     | cons h r =>
       obtain ⟨cs', p', h'⟩ := ih r
       exact ⟨c :: cs', p'.cons c, .cons h h'⟩
 | swap x y l =>
   intro cs h
   cases cs with
   | nil => cases h
   | cons c cs =>
     cases h with
     | cons h r =>
       cases cs with
       | nil => cases r
       | cons c2 cs =>
         cases r with
         | cons h2 r => exact ⟨c2 :: c :: cs, .swap c c2 cs, .cons h2 (.cons h r)⟩
 | trans _ _ ih1 ih2 =>
   intro cs h
   obtain ⟨c1, p1, h1⟩ := ih1 h
   obtain ⟨c2, p2, h2⟩ := ih2 h1
   exact ⟨c2, p2.trans p1, h2⟩
theorem Dvs.pairwise {α β : Type} {H : Hp} {g : α -> PyData} {key : α -> β} {kf : V -> β} {R : β -> β -> Prop} (hk : ∀ v c, Dv H v (g c) -> kf v = key c) : ∀ {xs : List V} {cs : List α}, Dvs H xs (cs.map g) -> xs.Pairwise (fun x y => R (kf x) (kf y)) -> cs.Pairwise (fun c d => R (key c) (key d))
 | _, [], .nil, _ => .nil
 | _, c :: cs, .cons h r, p => by
   rw [List.pairwise_cons] at p ⊢
   refine ⟨fun d hd => ?_, Dvs.pairwise hk r p.2⟩
   obtain ⟨i, hi⟩ := List.getElem?_of_mem hd
   obtain ⟨x, hx, hv⟩ := r.get (i := i) (d := g d) (by rw [List.getElem?_map, hi]; rfl)
   have := p.1 x (List.mem_of_getElem? hx)
   rw [hk _ _ h, hk _ _ hv] at this
   exact this
theorem Dv.lst_inv {H : Hp} {v : V} {ds : List PyData} (h : Dv H v (.list ds)) : ∃ a xs, v = .ref a /\ (∀ K : PySem.W.Frag, SqL K H a xs) /\ Dvs H xs ds := by
 cases h with
 | lst h r => exact ⟨_, _, rfl, fun _ => .inl h, r⟩
section
variable {σ : St} {H : Hp} {Q : VK} {D : Ends} {K : PySem.W.Frag} {p : Addr} {v : V} {ds : List PyData}
def LCT (te : TE) (N : Option V -> Hp -> Prop) (σ2 : St) (b : Bool) (H3 : Hp) : Prop := if b = true then te σ2 H3 (fun y H4 => N (some y) H4) else N none H3
theorem r_lcT {k : Nat} {tl : TE} {g : TG} {tc : TT} {te : TE} (h : tl σ H fun x H1 => ∃ a, x = .ref a /\ (∃ xs, SqL K H1 a xs) /\ LCW k g tc te (LCFin Q) σ (Itl K a) H1) : tLC k (iList K tl) g tc te σ H Q := h
theorem r_lc {k : Nat} {g : TG} {tc : TT} {te : TE} {α : Type} {cs : List α} {gd : α -> PyData} (pf : α -> Bool) (fd : α -> PyData) (hl : Dv H v (.list (cs.map gd))) (hlen : cs.length <= 4000) (hi : ∀ c, Imm (fd c) = true)
 (turn : ∀ x c H' (N : Option V -> Hp -> Prop), c ∈ cs -> Same H H' -> Dv H' x (gd c) -> (pf c = true -> ∀ y H4, Same H' H4 -> Dv H4 y (fd c) -> N (some y) H4) -> (pf c = false -> ∀ H3, Same H' H3 -> N none H3) ->
  g x (List.replicate k none ++ σ) H' fun σ2 H2 => tc σ2 H2 fun b H3 => LCT te N σ2 b H3)
 (kk : ∀ q H', Same H H' -> H q = none -> LAt H' q ((cs.filter pf).map fd) -> Q (.ref q) H') : ∃ a, v = .ref a /\ (∃ xs, SqL K H a xs) /\ LCW k g tc te (LCFin Q) σ (Itl K a) H := by
 obtain ⟨p, xs, rfl, e, dv⟩ := hl.lst_inv
 have hl0 : SqL K H p xs := e K
 have hxl : xs.length = cs.length := by rw [dv.length, List.length_map]
 refine ⟨p, rfl, ⟨xs, hl0⟩, fun i m acc H' => i <= cs.length /\ m = cs.length - i /\ Same H H' /\ Dvs H' acc (((cs.take i).filter pf).map fd), ⟨cs.length, Nat.zero_le _, rfl, Same.refl _, by simpa using Dvs.nil⟩, ?_⟩
 rintro i m acc H' ⟨hi1, hm, sm, hacc⟩
 have hl' : SqL K H' p xs := Same.seq sm hl0
 have hal : acc.length <= cs.length := by
  rw [hacc.length, List.length_map]
  exact Nat.le_trans (List.length_filter_le _ _) (by rw [List.length_take]; omega)
 by_cases hc : i = cs.length
 . left
   refine ⟨⟨xs, hl', by omega⟩, fun q hq => ?_⟩
   rw [hc, List.take_length] at hacc
   have sm2 : Same H (upd H' q (.lst acc)) := sm.trans (same_upd hq)
   exact kk q _ sm2 (sm.none hq) ⟨acc, upd_same, hacc.keeps (same_upd hq), immAll_map hi _⟩
 . right
   have hlt : i < cs.length := by omega
   have hlx : i < xs.length := by omega
   refine ⟨⟨xs, xs[i], hl', List.getElem?_eq_getElem hlx⟩, smaller (by omega), fun x H2 hy => ?_⟩
   obtain ⟨rfl, hy⟩ := hy
   have hx := hy xs hl'
   have hcs : cs[i]? = some cs[i] := List.getElem?_eq_getElem hlt
   obtain ⟨x', hx', hd⟩ := dv.get (i := i) (d := gd cs[i]) (by rw [List.getElem?_map, hcs]; rfl)
   rw [hx] at hx'
   cases hx'
   have htk : cs.take (i + 1) = cs.take i ++ [cs[i]] := by rw [List.take_add_one, hcs]; rfl
   exact turn x cs[i] H2 (fun o H4 => match o with | some y => ∃ m', m' < m /\ i + 1 <= cs.length /\ m' = cs.length - (i + 1) /\ Same H H4 /\ Dvs H4 (acc ++ [y]) (((cs.take (i + 1)).filter pf).map fd) | none => ∃ m', m' < m /\ i + 1 <= cs.length /\ m' = cs.length - (i + 1) /\ Same H H4 /\ Dvs H4 acc (((cs.take (i + 1)).filter pf).map fd))
    (List.getElem_mem hlt) sm (hd.keeps sm)
    (fun hp y H4 s4 d4 => ⟨cs.length - (i + 1), by omega, hlt, rfl, sm.trans s4, by
     rw [htk, List.filter_append, List.map_append]
     simp only [List.filter_cons, hp, if_true, List.filter_nil, List.map_cons, List.map_nil]
     exact Dvs.append (hacc.keeps s4) (.cons d4 .nil)⟩)
    (fun hp H3 s3 => ⟨cs.length - (i + 1), by omega, hlt, rfl, sm.trans s3, by
     rw [htk, List.filter_append, List.map_append]
     simp only [List.filter_cons, hp, Bool.false_eq_true, if_false, List.filter_nil, List.map_nil, List.append_nil]
     exact hacc.keeps s3⟩)
end
def lcCheck (scope sc : Scope) (N M : List Str) : Bool :=
 (scope.kind == .function) && scope.names.all (fun y => y.2 != .cell) && scope.names.all (fun y => y.2 != .local || scope.names.lookup y.1 == some .local) &&
  scope.names.all (fun y => y.2 != .free || (sc.names.lookup y.1 == some .cell || sc.names.lookup y.1 == some .free)) && (M.length == N.length) &&
  (M.zip N).all fun p => (p.1 == p.2 && scope.names.lookup p.1 == some .free) || scope.names.lookup p.1 == none
theorem lcn {X : Cx} {T M : List Str} {scope : Scope} (sc : Scope) (N : List Str) (hs : X.env.scope = sc) (hN : X.N = N) (h : lcCheck scope sc N M = true) : LCNames X T M scope := by
 unfold lcCheck at h
 simp only [Bool.and_eq_true, List.all_eq_true, Bool.or_eq_true, bne_iff_ne, beq_iff_eq, ne_eq] at h
 obtain ⟨⟨⟨⟨⟨h1, h2⟩, h3⟩, h4⟩, h5⟩, h6⟩ := h
 refine ⟨h1, h2, fun y hy e => ?_, fun y hy e => ?_, by rw [hN]; exact h5, fun i x hx => ?_⟩
 . rcases h3 y hy with z | z
   . exact absurd e z
   . exact z
 . rw [hs]
   rcases h4 y hy with z | z
   . exact absurd e z
   . exact z
 . have hi : i < M.length := (List.getElem?_eq_some_iff.mp hx).1
   have hiN : i < N.length := by omega
   have hz : (M.zip N)[i]? = some (x, N[i]) := by
    rw [List.getElem?_zip_eq_some]
    exact ⟨hx, List.getElem?_eq_getElem hiN⟩
   rcases h6 _ (List.mem_of_getElem? hz) with ⟨a, b⟩ | a
   . left
     refine ⟨?_, b⟩
     rw [hN, List.getElem?_eq_getElem hiN]
     have a' : x = N[i] := a
     rw [a']
   . exact .inr a
section
variable {σ : St} {H : Hp} {Q : VK} {D : Ends} {K : PySem.W.Frag} {p : Addr} {v : V} {ds : List PyData}
theorem r_ixSt {z : Str} {i : Int} {c : Nat} (hl : z.length <= sizeLine) (hi : atI z.cps.toList i = some c) (h : Q (.str ⟨#[c]⟩) H) : rIxK K (.str z) (.int i) H Q := .inl (.inr ⟨z, i, c, rfl, rfl, hl, hi, h⟩)
def rAddS : R2 := fun x y H Q => ∃ i j, x = .str i /\ y = .str j /\ i.length + j.length <= sizeLine /\ Q (.str (i ++ j)) H
theorem op_addS {X : Cx} : OpR X (binaryOp .Add) rAddS := op_add_str
theorem r_addS {i j : Str} (hl : i.length + j.length <= 4000) (h : Q (.str (i ++ j)) H) : rAddS (.str i) (.str j) H Q := ⟨i, j, rfl, rfl, small hl, h⟩
theorem r_truL {R : Bool -> Prop} (hp : Dv H v (.list ds)) (h : R (!ds.isEmpty)) : ∃ k, TruV K v H k /\ R k := by
 obtain ⟨p, xs, rfl, e, dv⟩ := hp.lst_inv
 refine ⟨_, .inl ⟨xs, e K, rfl⟩, ?_⟩
 have : xs.isEmpty = ds.isEmpty := by cases dv <;> rfl
 rw [this]; exact h
def rListOf (K : PySem.W.Frag) : List V -> Hp -> VK -> Prop := fun xs H Q => ∃ p ys, xs = [.ref p] /\ (SqL K H p ys \/ SqT K H p ys) /\ ∀ l, H l = none -> Q (.ref l) (upd H l (.lst ys))
theorem call_listOf {X : Cx} : CallR X (.type "list") (rListOf X.K) := call_list_of
theorem r_listOf (hp : Dv H v (.list ds)) (i : ImmAll ds = true) (k : ∀ q H', Same H H' -> H q = none -> LAt H' q ds -> Q (.ref q) H') : rListOf K [v] H Q := by
 obtain ⟨p, xs, rfl, e, dv⟩ := hp.lst_inv
 exact ⟨p, xs, rfl, .inl (e K), fun l hl => k l _ (same_upd hl) hl (lat_upd hl dv i)⟩
theorem cut_nat (xs : List V) (i j : Nat) : cutV xs (some (i : Int)) (some (j : Int)) = (xs.drop i).take (j - i) := by
 unfold cutV
 rw [HT.sIx_nat, HT.sIx_nat]
 by_cases h : i <= xs.length
 . rw [Nat.min_eq_left h]
   by_cases h2 : j <= xs.length
   . rw [Nat.min_eq_left h2]
   . rw [Nat.min_eq_right (by omega)]
     rw [List.take_of_length_le (by rw [List.length_drop]; omega), List.take_of_length_le (by rw [List.length_drop]; omega)]
 . rw [List.drop_of_length_le (show xs.length <= min i xs.length by omega), List.drop_of_length_le (show xs.length <= i by omega), List.take_nil, List.take_nil]
theorem r_sl {te : TE} {tl th : TO} {r : V -> Option Int -> Option Int -> Hp -> VK -> Prop} (h : te σ H fun x H1 => tl σ H1 fun l H2 => th σ H2 fun u H3 => r x l u H3 Q) : tSl r te tl th σ H Q := h
theorem r_part {t : TE} {R : Option Int -> Hp -> Prop} (h : t σ H fun x H1 => ∃ i, x = .int i /\ R (some i) H1) : tPart t σ H R := h
theorem r_noPart {R : Option Int -> Hp -> Prop} (h : R none H) : tNoPart σ H R := h
theorem r_partI {i : Int} {R : Int -> Prop} (h : R i) : ∃ j, V.int i = .int j /\ R j := ⟨i, rfl, h⟩
theorem r_cutN {ns : List Int} (i j : Nat) (hp : SqL K H p (ns.map V.int)) (k : ∀ q H', Same H H' -> H q = none -> LAt H' q (((ns.drop i).take (j - i)).map PyData.int) -> Q (.ref q) H') : rSlL K (.ref p) (some (i : Int)) (some (j : Int)) H Q := by
 refine ⟨p, _, rfl, hp, fun q hq => ?_⟩
 rw [cut_nat, <- List.map_drop, <- List.map_take]
 exact k q _ (same_upd hq) hq ⟨_, upd_same, Dvs.ints _, immAll_map (fun _ => rfl) _⟩
end
end L2
namespace L2
end L2
namespace L2
open PySem
theorem atI_mapI {α β : Type} [Inhabited α] {f : α -> β} {xs : List α} {i : Int} (h0 : 0 <= i) (h1 : i < xs.length) : atI (xs.map f) i = some (f (xs.getD i.toNat default)) := by
 obtain ⟨m, rfl⟩ := Int.eq_ofNat_of_zero_le h0
 have hm : m < xs.length := by omega
 refine atI_nat ?_
 rw [List.getElem?_map, List.getElem?_eq_getElem hm]
 simp [hm]
theorem r_lenM {α : Type} {g : α -> PyData} {xs : List α} {K : PySem.W.Frag} {H : Hp} {Q : VK} {v : V} (hs : Dv H v (.list (xs.map g))) (h : Q (.int (xs.length : Nat)) H) : rLenK K [v] H Q := r_lenK (.inr hs) (by rw [List.length_map]; exact h)
theorem r_gname {i : Nat} {v : V} {σ : St} {H : Hp} {R : St -> Hp -> Prop} (h : R (σ.set i (some v)) H) : gName i v σ H R := h
theorem Mv.sameN {p : Addr} {H H1 H2 : Hp} (s : Same H H1) (m : Mv [p] H1 H2) (n : H p = Option.none) : Same H H2 := fun a o e => m.kp a o (notin1 (ne_of_none e n)) (s a o e)
theorem Mv.sq {K : PySem.W.Frag} {S : List Addr} {H H' : Hp} {a : Addr} {xs : List V} (m : Mv S H H') (n : a ∉ S) (h : SqL K H a xs) : SqL K H' a xs := by
 rcases h with (h | ⟨o, h⟩) | h
 . exact .inl (.inl (m.at n h))
 . exact .inl (.inr ⟨o, m.at n h⟩)
 . exact .inr h
theorem r_truN {K : PySem.W.Frag} {H : Hp} {v : V} {R : Bool -> Prop} (hp : Dv H v (.list [])) (h : R false) : ∃ k, TruV K v H k /\ R k := r_truL hp h
theorem r_truX {K : PySem.W.Frag} {H : Hp} {v : V} {ds : List PyData} {R : Bool -> Prop} (hp : Dv H v (.list ds)) (hn : ds ≠ []) (h : R true) : ∃ k, TruV K v H k /\ R k := r_truL hp (by
 cases ds with
 | nil => exact absurd rfl hn
 | cons d ds => exact h)
theorem r_lct {te : TE} {N : Option V -> Hp -> Prop} {σ2 : St} {b : Bool} {H3 : Hp} (h1 : b = true -> te σ2 H3 (fun y H4 => N (some y) H4)) (h2 : b = false -> N none H3) : LCT te N σ2 b H3 := by
 unfold LCT
 cases b with
 | true => rw [if_pos rfl]; exact h1 rfl
 | false => rw [if_neg (by simp)]; exact h2 rfl
end L2
namespace L2
open PySem PySem.Spec PyProof.Rows
section
variable {X : Cx} {K : PySem.W.Frag} {a b e : Expr} {es : List Expr} {ta : TE} {pos : Pos}
theorem ix_KK (h : X.K = K) : IxR X (rIxK K) := by rw [<- h]; exact ix_K
theorem op_neK (h : X.K = K) (hu : X.A.units + 8 < cLine) : OpR X (compareOp .NotEq) (rEqA K not) := by rw [<- h]; exact op_neA hu
theorem pg_tupK {k : Nat} {t : TGs} {n : Nat} (h : X.K = K) (hc : X.calm = true) (hs : PGs X es t) (hn : (assignEach es X.env).length = n := by rfl) (hst : (assignEach es X.env).findIdx? (·.1) = none := by rfl) : PG X (.Tuple es k pos) (gTup K n t) := by rw [<- h]; exact pg_tup hc hs hn hst
theorem pe_fldK {f : Str} (h : X.K = K) (ha : PE X a ta) (hb : attributeBase a f X.env (eval a X.env) = eval a X.env := by rfl) : PE X (.Attribute a f pos) (tFld K ta f) := by rw [<- h]; exact pe_fld ha hb
end
end L2
namespace L2
open PySem PySem.Spec PyProof.Rows PySem.W
inductive DKs (H : Hp) : List (Key × V) -> List (Str × PyData) -> Prop where
 | nil : DKs H [] []
 | cons {k : Str} {v : V} {d : PyData} {kvs : List (Key × V)} {m : List (Str × PyData)} (h : Dv H v d) (i : Imm d = true) (r : DKs H kvs m) : DKs H ((.inr k, v) :: kvs) ((k, d) :: m)
theorem DKs.imm {H H' : Hp} (t : ∀ a xs, H a = some (.tup xs) -> H' a = some (.tup xs)) : ∀ {kvs : List (Key × V)} {m : List (Str × PyData)}, DKs H kvs m -> DKs H' kvs m
 | _, _, .nil => .nil
 | _, _, .cons h i r => .cons (h.imm t i) i (DKs.imm t r)
theorem DKs.length {H : Hp} : ∀ {kvs : List (Key × V)} {m : List (Str × PyData)}, DKs H kvs m -> kvs.length = m.length
 | _, _, .nil => rfl
 | _, _, .cons _ _ r => by simp [DKs.length r]
def lkp (m : List (Str × PyData)) (k : Str) : Option PyData := (m.find? fun kv => decide (kv.1 = k)).map (·.2)
def putD (m : List (Str × PyData)) (k : Str) (d : PyData) : List (Str × PyData) := if (m.any fun kv => decide (kv.1 = k)) = true then m.map (fun kv => if kv.1 = k then (kv.1, d) else kv) else m ++ [(k, d)]
def dropD (m : List (Str × PyData)) (k : Str) : List (Str × PyData) := m.filter fun kv => decide (kv.1 ≠ k)
theorem inr_iff {a b : Str} : ((Sum.inr a : Key) = Sum.inr b) = (a = b) := propext ⟨fun h => Sum.inr.inj h, fun h => by rw [h]⟩
theorem DKs.val {H : Hp} {k : Str} : ∀ {kvs : List (Key × V)} {m : List (Str × PyData)}, DKs H kvs m -> (∀ d, lkp m k = some d -> ∃ v, valV kvs (.inr k) = some v /\ Dv H v d) /\ (lkp m k = none -> valV kvs (.inr k) = none)
 | _, _, .nil => ⟨fun d h => by simp [lkp] at h, fun _ => rfl⟩
 | _, _, .cons (k := j) h i r => by
   obtain ⟨h1, h2⟩ := DKs.val (k := k) r
   by_cases e : j = k
   . subst e
     refine ⟨fun d hd => ⟨_, valV_pos rfl, ?_⟩, fun hd => by simp [lkp] at hd⟩
     simp [lkp] at hd
     subst hd; exact h
   . have e' : (Sum.inr j : Key) ≠ .inr k := fun z => e (Sum.inr.inj z)
     have el : ∀ (d : PyData) (m : List (Str × PyData)), lkp ((j, d) :: m) k = lkp m k := fun d m => by simp [lkp, List.find?_cons, e]
     refine ⟨fun d hd => ?_, fun hd => ?_⟩
     . rw [el] at hd
       obtain ⟨v, hv, hd'⟩ := h1 d hd
       exact ⟨v, by rw [valV_neg e']; exact hv, hd'⟩
     . rw [el] at hd
       rw [valV_neg e']; exact h2 hd
theorem DKs.any {H : Hp} {k : Str} : ∀ {kvs : List (Key × V)} {m : List (Str × PyData)}, DKs H kvs m -> (kvs.any fun kv => decide (kv.1 = .inr k)) = m.any fun kv => decide (kv.1 = k)
 | _, _, .nil => rfl
 | _, _, .cons h i r => by
   simp only [List.any_cons, DKs.any r, inr_iff]
theorem DKs.append {H : Hp} : ∀ {kvs kvs' : List (Key × V)} {m m' : List (Str × PyData)}, DKs H kvs m -> DKs H kvs' m' -> DKs H (kvs ++ kvs') (m ++ m')
 | _, _, _, _, .nil, s => s
 | _, _, _, _, .cons h i r, s => .cons h i (DKs.append r s)
theorem DKs.repl {H : Hp} {k : Str} {v : V} {d : PyData} (hv : Dv H v d) (hi : Imm d = true) : ∀ {kvs : List (Key × V)} {m : List (Str × PyData)}, DKs H kvs m -> DKs H (kvs.map fun kv => if kv.1 = .inr k then (kv.1, v) else kv) (m.map fun kv => if kv.1 = k then (kv.1, d) else kv)
 | _, _, .nil => .nil
 | _, _, .cons (k := j) h i r => by
   rw [List.map_cons, List.map_cons]
   by_cases e : j = k
   . subst e
     rw [if_pos rfl, if_pos rfl]
     exact .cons hv hi (DKs.repl hv hi r)
   . rw [if_neg (fun z => e (Sum.inr.inj z)), if_neg e]
     exact .cons h i (DKs.repl hv hi r)
theorem DKs.put {H : Hp} {k : Str} {v : V} {d : PyData} {kvs : List (Key × V)} {m : List (Str × PyData)} (r : DKs H kvs m) (hv : Dv H v d) (hi : Imm d = true) : DKs H (putK kvs (.inr k) v) (putD m k d) := by
 unfold putK putD
 rw [r.any]
 by_cases h : (m.any fun kv => decide (kv.1 = k)) = true
 . rw [if_pos h, if_pos h]; exact r.repl hv hi
 . rw [if_neg h, if_neg h]; exact r.append (.cons hv hi .nil)
theorem DKs.drop {H : Hp} {k : Str} : ∀ {kvs : List (Key × V)} {m : List (Str × PyData)}, DKs H kvs m -> DKs H (dropK kvs (.inr k)) (dropD m k)
 | _, _, .nil => .nil
 | _, _, .cons (k := j) h i r => by
   by_cases e : j = k
   . subst e
     have := DKs.drop (k := j) r
     simpa [dropK, dropD] using this
   . have := DKs.drop (k := k) r
     have e' : (Sum.inr j : Key) ≠ .inr k := fun z => e (Sum.inr.inj z)
     simp only [dropK, dropD, List.filter_cons] at this ⊢
     rw [if_pos (by simpa using e'), if_pos (by simpa using e)]
     exact .cons h i this
def DAt (H : Hp) (p : Addr) (m : List (Str × PyData)) : Prop := ∃ kvs, H p = some (.dK kvs) /\ DKs H kvs m
theorem DAt.keeps {H H' : Hp} {p : Addr} {m : List (Str × PyData)} (s : Same H H') (h : DAt H p m) : DAt H' p m := let ⟨kvs, e, d⟩ := h; ⟨kvs, s _ _ e, d.imm fun a xs e => s _ _ e⟩
theorem DAt.mv {S : List Addr} {H H' : Hp} {p : Addr} {m : List (Str × PyData)} (v : Mv S H H') (n : p ∉ S) (h : DAt H p m) : DAt H' p m := let ⟨kvs, e, d⟩ := h; ⟨kvs, v.at n e, d.imm v.tp⟩
section
variable {σ : St} {H : Hp} {Q : VK} {D : Ends} {K : PySem.W.Frag} {p : Addr} {m : List (Str × PyData)} {k : Str}
theorem r_dnew (h : ∀ p H2, Same H H2 -> H p = none -> DAt H2 p [] -> Q (.ref p) H2) : tDNewK σ H Q := fun p hp => h p _ (same_upd hp) hp ⟨[], upd_same, .nil⟩
theorem r_dputT {td ty tv : TE} (h : tv σ H fun v H1 => td σ H1 fun x H2 => ty σ H2 fun y H3 => ∃ a H4, x = .ref a /\ DPut H3 a y v H4 /\ D.nx σ H4) : sDPut td ty tv D σ H := h
theorem r_dput {v : V} {d : PyData} {R : Hp -> Prop} (hp : DAt H p m) (hl : m.length <= 4000) (hv : Dv H v d) (hi : Imm d = true) (h : ∀ H2, Mv [p] H H2 -> DAt H2 p (putD m k d) -> R H2) : ∃ a H4, V.ref p = .ref a /\ DPut H a (.str k) v H4 /\ R H4 := by
 obtain ⟨kvs, e, dk⟩ := hp
 have mv : Mv [p] H (upd H p (.dK (putK kvs (.inr k) v))) := .of_upd e (by intro _ z; cases z)
 exact ⟨p, _, rfl, DPut.k (k := .inr k) e (by rw [dk.length]; exact smaller hl), h _ mv ⟨_, upd_same, (dk.put hv hi).imm mv.tp⟩⟩
theorem r_dgetT {td ty : TE} (h : td σ H fun x H1 => ty σ H1 fun y H2 => ∃ a v, x = .ref a /\ DGet H2 a y (some v) /\ Q v H2) : tDGet td ty σ H Q := h
theorem r_dget {d : PyData} {R : V -> Prop} (hp : DAt H p m) (hk : lkp m k = some d) (h : GotD H d fun v _ => R v) : ∃ a v, V.ref p = .ref a /\ DGet H a (.str k) (some v) /\ R v := by
 obtain ⟨kvs, e, dk⟩ := hp
 obtain ⟨v, hv, hd⟩ := (dk.val (k := k)).1 d hk
 exact ⟨p, v, rfl, by rw [<- hv]; exact DGet.k (k := .inr k) e, h.use hd⟩
theorem r_dinT {td ty : TE} (h : ty σ H fun y H1 => td σ H1 fun x H2 => ∃ a o, x = .ref a /\ DGet H2 a y o /\ Q (.bl o.isSome) H2) : tDIn ty td σ H Q := h
theorem r_dninT {td ty : TE} (h : ty σ H fun y H1 => td σ H1 fun x H2 => ∃ a o, x = .ref a /\ DGet H2 a y o /\ Q (.bl (!o.isSome)) H2) : tDNotIn ty td σ H Q := h
theorem d_val (hp : DAt H p m) (k : Str) : ∃ o, DGet H p (.str k) o /\ o.isSome = (lkp m k).isSome := by
 obtain ⟨kvs, e, dk⟩ := hp
 refine ⟨valV kvs (.inr k), DGet.k (k := .inr k) e, ?_⟩
 obtain ⟨h1, h2⟩ := dk.val (k := k)
 cases hl : lkp m k with
 | none => rw [h2 hl]; rfl
 | some d => obtain ⟨v, hv, _⟩ := h1 d hl; rw [hv]; rfl
theorem r_din {R : Option V -> Prop} (hp : DAt H p m) (h : ∀ o : Option V, o.isSome = (lkp m k).isSome -> R o) : ∃ a o, V.ref p = .ref a /\ DGet H a (.str k) o /\ R o := by
 obtain ⟨o, g, e⟩ := d_val hp k
 exact ⟨p, o, rfl, g, h o e⟩
theorem r_chain {r r' : R2} {ta tb tc : TE} (h : ta σ H fun x H1 => tb σ H1 fun y H2 => r x y H2 fun z H3 => ∃ k, z = .bl k /\ if k = true then tc σ H3 fun u H4 => r' y u H4 Q else Q (.bl false) H3) : tChain r r' ta tb tc σ H Q := h
end
end L2
namespace L2
theorem r_tB {t : TE} {σ : St} {H : Hp} {Q : Bool -> Hp -> Prop} (h : t σ H fun x H' => ∃ k, x = .bl k /\ Q k H') : tB t σ H Q := h
end L2
namespace L2
open PySem
theorem forDB {Hb : Hp} {σ : St} {H : Hp} {D : Ends} {K : PySem.W.Frag} {v : V} {α : Type} {cs : List α} {gd : α -> PyData} {g : TG} {tb : TS} (hl : Dv Hb v (.list (cs.map gd))) (Pv : Nat -> St -> Hp -> Prop) (h0 : Pv 0 σ H) (hk : ∀ i σ H', i <= cs.length -> Pv i σ H' -> ∀ a xs, v = .ref a -> SqL K Hb a xs -> SqL K H' a xs)
 (hs : ∀ i c x σ H', cs[i]? = some c -> Pv i σ H' -> (Imm (gd c) = true -> (∀ a xs, Hb a = some (.tup xs) -> H' a = some (.tup xs)) -> Dv H' x (gd c)) -> (Same Hb H' -> Dv H' x (gd c)) -> g x σ H' fun σ2 H2 => tb { D with nx := Pv (i + 1), ct := Pv (i + 1), bk := D.nx } σ2 H2) (hd : ∀ σ H', Pv cs.length σ H' -> D.nx σ H') : ForL K v g tb D σ H := by
 obtain ⟨p, xs, rfl, e, dv⟩ := hl.lst_inv
 have hxl : xs.length = cs.length := by rw [dv.length, List.length_map]
 refine forL (hk 0 σ H (Nat.zero_le _) h0 p xs rfl (e K)) Pv h0 (fun i σ H' hi hp => hk i σ H' (by omega) hp p xs rfl (e K)) (fun i x σ H' hx hp => ?_) (fun σ H' hp => hd σ H' (by rw [<- hxl]; exact hp))
 have hi : i < cs.length := by have := (List.getElem?_eq_some_iff.mp hx).1; omega
 obtain ⟨x', hx', hd'⟩ := dv.get (i := i) (d := gd cs[i]) (by rw [List.getElem?_map, List.getElem?_eq_getElem hi]; rfl)
 rw [hx] at hx'
 cases hx'
 exact hs i cs[i] x σ H' (List.getElem?_eq_getElem hi) hp (fun im t => hd'.imm t im) (fun s => hd'.keeps s)
end L2
namespace L2
open PySem PySem.Spec PyProof.Rows PySem.W
section
variable {X : Cx} {tg : Expr}
section
variable {σ : St} {H : Hp} {Q : VK} {D : Ends} {K : PySem.W.Frag}
end
end
end L2
namespace L2
open PySem
section
variable {H : Hp} {Q : VK} {K : PySem.W.Frag}
end
end L2
namespace L2
open PySem PySem.Spec PyProof.Rows PySem.W
section
variable {X : Cx}
end
section
variable {σ : St} {H : Hp} {Q : VK} {D : Ends} {K : PySem.W.Frag} {p : Addr} {ds : List PyData}
theorem Dvs.drop {H : Hp} : ∀ {xs : List V} {ds : List PyData} (n : Nat), Dvs H xs ds -> Dvs H (xs.drop n) (ds.drop n)
 | _, _, 0, h => h
 | _, _, _ + 1, .nil => .nil
 | _, _, n + 1, .cons _ r => Dvs.drop n r
theorem Dvs.take {H : Hp} : ∀ {xs : List V} {ds : List PyData} (n : Nat), Dvs H xs ds -> Dvs H (xs.take n) (ds.take n)
 | _, _, 0, _ => .nil
 | _, _, _ + 1, .nil => .nil
 | _, _, n + 1, .cons h r => .cons h (Dvs.take n r)
theorem immAll_take {ds : List PyData} (n : Nat) (h : ImmAll ds = true) : ImmAll (ds.take n) = true := by
 rw [immAll_iff] at *
 exact fun d hd => h d (List.mem_of_mem_take hd)
theorem cut_to (xs : List V) (j : Nat) : cutV xs none (some (j : Int)) = xs.take j := by
 have h1 : HT.sIx xs.length xs.length (some (j : Int)) = min j xs.length := by
  simp only [HT.sIx]
  rw [if_neg (by omega)]
  omega
 have h2 : HT.sIx xs.length 0 none = 0 := rfl
 show (xs.drop (HT.sIx xs.length 0 none)).take (HT.sIx xs.length xs.length (some (j : Int)) - HT.sIx xs.length 0 none) = _
 rw [h1, h2, List.drop_zero, Nat.sub_zero]
 by_cases h : j <= xs.length
 . rw [Nat.min_eq_left h]
 . rw [List.take_of_length_le (show xs.length <= min j xs.length by omega), List.take_of_length_le (show xs.length <= j by omega)]
theorem r_cutT (j : Nat) (hp : LAt H p ds) (k : ∀ q H', Same H H' -> H q = none -> LAt H' q (ds.take j) -> Q (.ref q) H') : rSlL K (.ref p) none (some (j : Int)) H Q := by
 obtain ⟨xs, e, dv, im⟩ := hp
 refine ⟨p, xs, rfl, SqL.of e, fun q hq => ?_⟩
 rw [cut_to]
 exact k q _ (same_upd hq) hq (lat_upd hq (dv.take j) (immAll_take j im))
theorem r_catL {q : Addr} {es : List PyData} (hp : LAt H p ds) (hq : LAt H q es) (hl : ds.length + es.length <= 4000) (k : ∀ r H', Same H H' -> H r = none -> LAt H' r (ds ++ es) -> Q (.ref r) H') : rCat (.ref p) (.ref q) H Q := by
 obtain ⟨xs, e, dv, im⟩ := hp
 obtain ⟨zs, e2, dv2, im2⟩ := hq
 refine ⟨p, q, xs, zs, rfl, rfl, e, e2, by rw [dv.length, dv2.length]; exact small hl, fun r hr => ?_⟩
 exact k r _ (same_upd hr) hr (lat_upd hr (dv.append dv2) (immAll_append im im2))
end
end L2
namespace L2
open PySem PySem.Calls PyProof.Rows
section
variable {X : Cx} {e k : Expr} {te tk : TE} {pos p2 : Pos}
end
section
variable {X : Cx}
end
section
variable {K : PySem.W.Frag} {σ : St} {H : Hp} {Q : VK} {p : Addr} {ds : List PyData}
end
end L2
namespace L2
open PySem PySem.Spec PyProof.Rows PySem.W
section
variable {X : Cx}
theorem ints_at {H : Hp} : ∀ {xs : List V} {ns : List Int} {us : List Value}, Dvs H xs (ns.map PyData.int) -> Vals xs us -> IntsAre us ns
 | _, [], _, .nil, .nil => .nil
 | _, _ :: _, _, .cons h r, .cons q t => by
   cases h
   obtain ⟨tk, rfl⟩ := q
   exact .cons _ _ (ints_at r t)
end
section
variable {prog : Program} {w : World} {A : Around} {E : Value -> Shared -> Prop} {s : Shared} {it l : Addr} {its : Array Value}
end
section
variable {X : Cx} {e : Expr} {te : TE} {p p2 pos pos2 : Pos}
end
section
variable {K : PySem.W.Frag} {σ : St} {H : Hp} {Q : VK} {p : Addr} {ds : List PyData} {v : V}
theorem r_ixN {ns : List Int} {i : Int} (hp : Dv H v (.list (ns.map PyData.int))) (h0 : 0 <= i) (h1 : i < ns.length) (h : ∀ n ∈ ns, Q (.int n) H) : rIxK K v (.int i) H Q := by
 obtain ⟨m, rfl⟩ := Int.eq_ofNat_of_zero_le h0
 have hi : m < ns.length := by omega
 have e : atI (ns.map PyData.int) (m : Int) = some (.int ns[m]) := atI_nat (by rw [List.getElem?_map, List.getElem?_eq_getElem hi]; rfl)
 exact r_ixD (.inr hp) e (got_int (h _ (List.getElem_mem hi)))
end
section
variable {P : Program} {w : World} {H : Hp} {h : Heap} {d : Addr} {o : Obj} {kvs : List (Key × V)}
theorem HOk.frz (ok : HOk P w H h) (hd : H d = some (.dK kvs)) (ho : h.get? d = some o) : HOk P w (upd H d (.frz o (.dK kvs))) h := by
 intro b u q
 by_cases hb : b = d
 . subst hb
   rw [upd_same] at q
   cases q
   exact ⟨ho, ok b _ hd⟩
 . rw [upd_ne hb] at q
   refine (ok b u q).stay (fun c v _ r => r) (fun c r => ?_) fun c xs r => ?_
   . rw [upd_ne (ne_of r hd (by intro z; cases z))]; exact r
   . rw [upd_ne (ne_of r hd (by intro z; cases z))]; exact r
theorem HOk.thaw (ok : HOk P w H h) (hd : H d = some (.frz o (.dK kvs))) : HOk P w (upd H d (.dK kvs)) h := by
 intro b u q
 by_cases hb : b = d
 . subst hb
   rw [upd_same] at q
   cases q
   exact (ok b _ hd).2
 . rw [upd_ne hb] at q
   refine (ok b u q).stay (fun c v _ r => r) (fun c r => ?_) fun c xs r => ?_
   . rw [upd_ne (ne_of r hd (by intro z; cases z))]; exact r
   . rw [upd_ne (ne_of r hd (by intro z; cases z))]; exact r
end
section
variable {X : Cx} {pins : List (Addr × Obj)} {σ : St} {H : Hp} {s : Shared} {d : Addr} {o : Obj} {kvs : List (Key × V)}
theorem Inv.freeze (I : Inv X pins σ H s) (hd : H d = some (.dK kvs)) (ho : s.heap.get? d = some o) : Inv X pins σ (upd H d (.frz o (.dK kvs))) s := by
 have u : Un X.fs [] H (upd H d (.frz o (.dK kvs))) s.heap s.heap := {
  keep := fun b u e n _ _ => e
  slot := fun b u e n _ _ => ⟨u.slots, e⟩
  free := fun b u e n _ => by rw [upd_ne (Ne.symm (ne_of_none hd n))]; exact n
  there := fun b u e _ => ⟨u, e⟩
  tups := fun b xs e => by rw [upd_ne (ne_of e hd (by intro z; cases z))]; exact e
  frzs := fun b u v e => by rw [upd_ne (ne_of e hd (by intro z; cases z))]; exact e
  tbls := fun b ps e => ⟨#[], by rw [upd_ne (ne_of e hd (by intro z; cases z)), e]; simp⟩ }
 exact I.un (h' := s.heap) (t' := s.toks) u (I.hok.frz hd ho)
theorem Inv.thaw (I : Inv X pins σ H s) (hd : H d = some (.frz o (.dK kvs))) (h0 : ∀ u v, X.H₀ d ≠ some (.frz u v)) : Inv X pins σ (upd H d (.dK kvs)) s := by
 have nn : ∀ b, H b = none -> upd H d (.dK kvs) b = none := fun b n => by rw [upd_ne (Ne.symm (ne_of_none hd n))]; exact n
 refine ⟨I.ok, I.os, I.bare, ⟨I.base.keep, I.base.slot, fun b u e n x => nn b (I.base.free b u e n x), I.base.there, fun b xs e => ?_, fun b u v e => ?_, fun b ps e => ?_⟩, I.loc, I.cell, nn _ I.free, fun x c e => nn c (I.freeC x c e), fun p hp => ?_, I.hok.thaw hd, I.len⟩
 . have z := I.base.tups b xs e
   rw [upd_ne (ne_of z hd (by intro q; cases q))]; exact z
 . have z := I.base.frzs b u v e
   have hb : b ≠ d := fun q => h0 u v (q ▸ e)
   rw [upd_ne hb]; exact z
 . obtain ⟨m, z⟩ := I.base.tbls b ps e
   exact ⟨m, by rw [upd_ne (ne_of z hd (by intro q; cases q))]; exact z⟩
 . obtain ⟨a1, a2, a3⟩ := I.pin p hp
   exact ⟨a1, nn _ a2, a3⟩
theorem Inv.noFrz (I : Inv X pins σ H s) (hd : H d = some (.dK kvs)) : ∀ u v, X.H₀ d ≠ some (.frz u v) := fun u v z => by
 have := I.base.frzs d u v z
 rw [hd] at this
 cases this
def tThaw (t : TE) : TE := fun σ H Q => ∃ d kvs, H d = some (.dK kvs) /\ t σ H fun v H' => (∃ o, H' d = some (.frz o (.dK kvs))) /\ Q v (upd H' d (.dK kvs))
theorem pe_thaw {e : Expr} {t : TE} (h : PE X e t) : PE X e (tThaw t) := by
 intro pins s σ H Q I ⟨d, kvs, hd, ht⟩
 have h0 := I.noFrz hd
 exact thn (h pins s σ H _ I ht) fun v s1 ⟨x, H1, I1, r, ⟨o, ho⟩, q⟩ => ⟨x, _, I1.thaw ho h0, r, q⟩
end
theorem dict_at {P : Program} {w : World} {H : Hp} {h : Heap} {d : Addr} {o : Obj} {kvs : List (Key × V)} {es : Array DictEntry} {ep : Nat} (ok : HOk P w H h) (hd : H d = some (.frz o (.dK kvs))) (he : o.data = .dict es ep) : (d == sysModules) = false /\ ∃ vs, KV kvs vs /\ h.DictAt (mixKind P w) d vs ep := by
 obtain ⟨ho, _, hs, vs, kv, o2, es2, ep2, a1, a2, a3, a4⟩ := ok d _ hd
 rw [ho] at a1
 cases a1
 rw [he] at a3
 cases a3
 exact ⟨hs, vs, kv, _, _, ho, a2, he, a4⟩
theorem paired_get {α β : Type} {F : α -> β -> Prop} : ∀ {xs : List α} {ys : List β}, Paired F xs ys -> ∀ {i : Nat} {x : α}, xs[i]? = some x -> ∃ y, ys[i]? = some y /\ F x y
 | _, _, .nil, i, x, h => by simp at h
 | _, _, .cons r t, 0, x, h => by
   have e := Option.some.inj h
   exact ⟨_, rfl, e ▸ r⟩
 | _, _, .cons r t, i + 1, x, h => by
   obtain ⟨y, e, q⟩ := paired_get t (i := i) (by simpa using h)
   exact ⟨y, by simpa using e, q⟩
theorem relV_key {k : Key} {v : Value} (h : keyIs k v = true) : RelV (kV k) v := by
 rcases keyIs_shape h with ⟨i, t, rfl, rfl⟩ | ⟨x, t, rfl, rfl⟩
 . exact ⟨t, rfl⟩
 . exact ⟨t, rfl⟩
def DRd (H : Hp) (p : Addr) (m : List (Str × PyData)) : Prop := ∃ kvs, Rd H p (.dK kvs) /\ DKs H kvs m
theorem DAt.rd {H : Hp} {p : Addr} {m : List (Str × PyData)} (h : DAt H p m) : DRd H p m := let ⟨kvs, e, d⟩ := h; ⟨kvs, .inl e, d⟩
theorem DKs.getK {H : Hp} : ∀ {kvs : List (Key × V)} {m : List (Str × PyData)}, DKs H kvs m -> ∀ {i : Nat} {kv : Key × V}, kvs[i]? = some kv -> ∃ k d, m[i]? = some (k, d) /\ kv.1 = .inr k /\ Dv H kv.2 d
 | _, _, .nil, i, kv, h => by simp at h
 | _, _, .cons (k := k) (d := d) hv _ r, 0, kv, h => by
   have e := (Option.some.inj h).symm
   subst e
   exact ⟨k, d, rfl, rfl, hv⟩
 | _, _, .cons _ _ r, i + 1, kv, h => by
   obtain ⟨k, d, e, q⟩ := DKs.getK r (i := i) (by simpa using h)
   exact ⟨k, d, by simpa using e, q⟩
section
variable {σ : St} {H : Hp} {Q : VK} {K : PySem.W.Frag} {p : Addr} {m : List (Str × PyData)} {k : Str}
end
section
variable {X : Cx}
def rDPop : V -> List V -> Hp -> VK -> Prop := fun x vs H Q => ∃ a kvs k v, x = .ref a /\ vs = [kV k] /\ H a = some (.dK kvs) /\ valV kvs k = some v /\ Q v (upd H a (.dK (dropK kvs k)))
theorem mt_dpop : MtM X "dict.pop" rDPop := by
 intro pins s σ H x vs v us Q I rx rv h
 obtain ⟨a, kvs, k, y, rfl, rfl, hH, hv, q⟩ := h
 cases rx
 obtain ⟨u, rfl, ru⟩ := rv.one
 exact d_pop I hH ru hv (.inl rfl) fun w' s' I' r => ⟨y, _, I', r, q⟩
end
section
variable {σ : St} {H : Hp} {Q : VK} {K : PySem.W.Frag} {p : Addr} {m : List (Str × PyData)} {k : Str}
theorem r_tyD {R : Prop} (hp : DAt H p m) (h : R) : tyV K "dict" (.ref p) H /\ R := let ⟨kvs, e, _⟩ := hp; ⟨.inr (.inr (.inl ⟨rfl, .inl ⟨kvs, e⟩⟩)), h⟩
theorem r_dpop {d : PyData} (hp : DAt H p m) (hk : lkp m k = some d) (h : ∀ v H2, Mv [p] H H2 -> DAt H2 p (dropD m k) -> Q v H2) : rDPop (.ref p) [.str k] H Q := by
 obtain ⟨kvs, e, dk⟩ := hp
 obtain ⟨v, hv, hd⟩ := (dk.val (k := k)).1 d hk
 have mv : Mv [p] H (upd H p (.dK (dropK kvs (.inr k)))) := .of_upd e (by intro _ z; cases z)
 refine ⟨p, kvs, .inr k, v, rfl, rfl, e, hv, h v _ mv ⟨_, upd_same, dk.drop.imm mv.tp⟩⟩
end
section
variable {σ : St} {H : Hp} {Q : VK} {K : PySem.W.Frag} {p : Addr}
end
section
variable {X : Cx}
end
theorem push_other {h : Heap} {o u : Obj} {b : Addr} (e : (h.push o).get? b = some u) (n : b ≠ h.objs.size) : h.get? b = some u := by
 obtain ⟨e1, e2⟩ := Heap.get?_some_iff.mp e
 refine Heap.get?_some_iff.mpr ⟨?_, e2⟩
 cases h
 simpa [Heap.push, Array.getElem?_push, n] using e1
section
variable {prog : Program} {w : World} {K : Type} [DecidableEq K] {knd : KeyKind prog w K} {A : Around} {E : Value -> Shared -> Prop} {s : Shared} {d : Addr} {kvs : List (K × Value)} {ep : Nat}
theorem ext_dict {R : Result -> Shared -> Prop} (hh : A.handled = none) (hd : (d == sysModules) = false) (y : Addr) (c0 : Nat) (hz : kvs.length <= sizeLine) (hm : s.heap.DictAt knd d kvs ep)
 (hy : s.heap.get? y = some { cls := .type "list", data := .seq #[] c0 }) (hyd : y ≠ d)
 (hR : ∀ s' acc c, s'.gens = s.gens -> s'.drawn = s.drawn -> s'.os = s.os -> (∀ b o, b ≠ y -> s.heap.get? b = some o -> s'.heap.get? b = some o) -> s'.heap.get? y = some { cls := .type "list", data := .seq acc c } -> ItemsOf (fun i v => ∃ k x, kvs[i]? = some (k, x) /\ knd.is k v = true) acc kvs.length -> R (.ok (.ret .none)) s') :
 wpAny (model prog w) A.in1 (Builtin.List.listExtendWith (.ref y) (.ref d) .none)
  (fun f s' => match f with | .done g => R (.ok g) s' | .again c => c.quiet = true /\ codeAny (model prog w) A c R s') (fun e s' => R (.error e) s') s := by
 have hT : s.TypeIs (.ref d) "dict" := hm.dictOf.typeIs
 have hyl : y < s.heap.objs.size := Heap.lt_size hy
 have hdl : d < s.heap.objs.size := hm.lt_size
 have W := (Walks.dictKeys (knd := knd) (A := A.in1) hh s.heap.objs.size d (Nat.ne_of_lt hdl) kvs ep).toS
 have nf : y ∉ [s.heap.objs.size, d] := by simp [hyd, Nat.ne_of_lt hyl]
 unfold Builtin.List.listExtendWith
 refine wpAny_bind (wpAny_typeOf hT ?_)
 have a1 : Builtin.List.listSameRef (.ref y) (.ref d) = false := by simp [Builtin.List.listSameRef, hyd]
 have a2 : (Value.type "dict" == Value.type "list") = false := by decide
 have a3 : (Value.type "dict" == Value.type "tuple") = false := by decide
 simp only [a1, a2, a3, Bool.or_self, Bool.false_eq_true, if_false]
 refine wpAny_bind (wpAny_pyIter_dict hd hm ?_)
 refine wpAny_bind (wpAny_holding ?_)
 have hT1 : Shared.TypeIs { s with heap := s.heap.push { cls := .type "dict_keyiterator", data := .fields #[.ref d, .int 0 0, .int kvs.length 0, .int ep 0] } } (.ref d) "dict" := by
  obtain ⟨o, es, e, c, _⟩ := id hm
  exact ⟨o, Heap.get?_push_of_some _ e, c.1⟩
 unfold Builtin.List.listLengthHint
 refine wpAny_bind (wpAny_specialOf hT1 F.slot_dict_len.lookup ?_)
 generalize hid : ("dict.__len__" : String) = id0
 wp_delta
 rw [show splitId id0 = some ("dict", "__len__") from by subst hid; decide +kernel]
 subst hid
 refine wpAny_bind (wpAny_isInstance (T := "dict") (b := true) hT1 (by rw [isSubtype_type]; kernel_rfl) ?_)
 refine wpAny_ite_split (fun hab => absurd hab (by decide)) (fun _ => ?_)
 refine wpAny_ite_split (fun _ => ?_) (fun hab => absurd (by decide +kernel) hab)
 refine wpAny_bind (wpAny_typeOf hT1 (wpAny_pure ?_))
 show wpAny _ A.in1 (rule "list.extend.makes-room" >>= fun _ => Builtin.List.listTouch (.ref y) >>= fun _ =>
  again (.builtin "list.extend.loop" ⟨[.ref y, .ref s.heap.objs.size, .none], []⟩)) _ _ _
 refine wpAny_bind (wpAny_rule ?_)
 have hy1 := Heap.get?_push_of_some { cls := .type "dict_keyiterator", data := .fields #[.ref d, .int 0 0, .int kvs.length 0, .int ep 0] } hy
 refine wpAny_bind ?_
 show wpAny _ A.in1 (updateSeq y (·.push .none) >>= fun _ => updateSeq y (·.pop)) _ _ _
 refine wpAny_bind (wpAny_updateSeq hy1 rfl ?_)
 have hy2 := Heap.get?_update_self (Obj.mapSeq (·.push Value.none)) hy1 rfl
 refine wpAny_updateSeq (hz := by seq_fits) hy2 rfl ?_
 have hy3 := Heap.get?_update_self (Obj.mapSeq (·.pop)) hy2 rfl
 have ot : ∀ b o, b ≠ y -> (s.heap.push { cls := .type "dict_keyiterator", data := .fields #[.ref d, .int 0 0, .int kvs.length 0, .int ep 0] }).get? b = some o -> (((s.heap.push { cls := .type "dict_keyiterator", data := .fields #[.ref d, .int 0 0, .int kvs.length 0, .int ep 0] }).update y (Obj.mapSeq (·.push Value.none))).update y (Obj.mapSeq (·.pop))).get? b = some o :=
  fun b o hb e => (Heap.get?_update_other _ _ (Ne.symm hb)).trans ((Heap.get?_update_other _ _ (Ne.symm hb)).trans e)
 have it0 : Heap.IsKeyIter (s.heap.push { cls := .type "dict_keyiterator", data := .fields #[.ref d, .int 0 0, .int kvs.length 0, .int ep 0] }) s.heap.objs.size d 0 kvs.length ep := ⟨_, Heap.get?_push_size _ rfl, rfl, rfl⟩
 refine wpAny_pure ⟨plainId_quiet F.plain_extend_loop _, codeAny_extend_loopS W hz _ nf _ kvs.length 0 _ _ _ rfl (Nat.zero_le _) ⟨it0.at fun o e => ot _ o (Ne.symm (Nat.ne_of_lt hyl)) e, (hm.push _).at' fun o e => ot _ o (Ne.symm hyd) e⟩ hy3 (ItemsOf.nil _) fun s' acc c hmv hs hacc => ?_⟩
 refine hR s' acc c hmv.gens hmv.drawn hmv.os (fun b o hb e => hmv.heap b o ?_ (ot b o hb (Heap.get?_push_of_some _ e))) hs hacc
 simp [hb, Nat.ne_of_lt (Heap.lt_size e)]
theorem call_list_dict {Q : Value -> Shared -> Prop} (hh : A.handled = none) (hd : (d == sysModules) = false) (hz : kvs.length <= sizeLine) (hm : s.heap.DictAt knd d kvs ep)
 (hQ : ∀ s' acc c, s'.gens = s.gens -> s'.drawn = s.drawn -> s'.os = s.os -> (∀ b o, s.heap.get? b = some o -> s'.heap.get? b = some o) -> s'.heap.get? s.heap.objs.size = some { cls := .type "list", data := .seq acc c } -> ItemsOf (fun i v => ∃ k x, kvs[i]? = some (k, x) /\ knd.is k v = true) acc kvs.length -> Q (.ref s.heap.objs.size) s') :
 wpAny (model prog w) A (call (.type "list") [.ref d]) Q E s := by
 have hdl : d < s.heap.objs.size := hm.lt_size
 refine callType_codes (Q₁ := fun u s1 => u = .ref s.heap.objs.size /\ s1 = { s with heap := s.heap.push { cls := .type "list", data := .seq #[] } }) F.called_list (F.typeCall_list_1 _) F.entry_list_init (code_list_new _ ⟨rfl, rfl⟩) fun u s1 hu => ?_
 obtain ⟨rfl, rfl⟩ := hu
 have h0 : (s.heap.push { cls := .type "list", data := .seq #[] }).get? s.heap.objs.size = some { cls := .type "list", data := .seq #[] } := Heap.get?_push_size _ rfl
 refine ⟨⟨_, h0, rfl⟩, F.args_list_init_2 _ _, ?_⟩
 show wpAny _ _ (Builtin.List.listItems (.ref s.heap.objs.size) >>= fun old => Builtin.List.listUpdate (.ref s.heap.objs.size) (fun _ => #[]) >>= fun _ => letGo old.toList.reverse >>= fun _ => Builtin.List.listExtendWith (.ref s.heap.objs.size) (.ref d) .none) _ _ _
 refine wpAny_bind ?_
 unfold Builtin.List.listItems
 refine wpAny_bind (wpAny_seqItems h0 rfl (wpAny_pure (wpAny_bind ?_)))
 refine wpAny_updateSeq h0 rfl (wpAny_bind (wpAny_letGo ?_))
 have h2 := Heap.get?_update_self (Obj.mapSeq (fun _ => (#[] : Array Value))) h0 rfl
 have ot : ∀ b o, b ≠ s.heap.objs.size -> s.heap.get? b = some o -> ((s.heap.push { cls := .type "list", data := .seq #[] }).update s.heap.objs.size (Obj.mapSeq (fun _ => (#[] : Array Value)))).get? b = some o := fun b o hb e => by
  rw [Heap.get?_update_other _ _ (Ne.symm hb)]
  exact Heap.get?_push_of_some _ e
 refine ext_dict (A := A.in1) hh hd _ _ hz (hm.at' fun o e => ot d o (Nat.ne_of_lt hdl) e) h2 (Ne.symm (Nat.ne_of_lt hdl)) fun s' acc c e1 e2 e3 hm' hs hacc => ?_
 exact ⟨rfl, hQ s' acc c e1 e2 e3 (fun b o e => hm' b o (Nat.ne_of_lt (Heap.lt_size e)) (ot b o (Nat.ne_of_lt (Heap.lt_size e)) e)) hs hacc⟩
end
section
variable {X : Cx}
def rListD : List V -> Hp -> VK -> Prop := fun xs H Q => ∃ p kvs, xs = [.ref p] /\ Rd H p (.dK kvs) /\ ∀ q, H q = none -> Q (.ref q) (upd H q (.lst (kvs.map fun kv => kV kv.1)))
theorem items_keys {P : Program} {w : World} {kvs : List (Key × V)} {vs : List (Key × Value)} {acc : Array Value} (kv : KV kvs vs) (h : ItemsOf (fun i v => ∃ k x, vs[i]? = some (k, x) /\ (mixKind P w).is k v = true) acc vs.length) : Vals (kvs.map fun kv => kV kv.1) acc.toList := by
 obtain ⟨h0, h1⟩ := h
 have key : ∀ (kvs : List (Key × V)) (vs : List (Key × Value)), KV kvs vs -> ∀ l : List Value, l.length = vs.length -> (∀ (i : Nat) (v : Value), l[i]? = some v -> ∃ k x, vs[i]? = some (k, x) /\ (mixKind P w).is k v = true) -> Vals (kvs.map fun kv => kV kv.1) l := by
  intro kvs vs r
  induction r with
  | nil =>
    intro l hl _
    cases l with
    | nil => exact .nil
    | cons => simp at hl
  | cons r t ih =>
    intro l hl hi
    cases l with
    | nil => simp at hl
    | cons v l =>
      refine .cons ?_ (ih l (by simpa using hl) fun i v e => ?_)
      . obtain ⟨k, x, e, hk⟩ := hi 0 v rfl
        have e' := Option.some.inj e
        dsimp only
        rw [r.1, e']
        exact relV_key hk
      . exact hi (i + 1) v (by simpa using e)
 exact key kvs vs kv acc.toList (by simpa using h0) fun i v e => h1 i v (by simpa using e)
theorem call_listD (hc : X.calm = true) : CallR X (.type "list") rListD := by
 intro pins s σ H xs us Q I rv h
 obtain ⟨p, kvs, rfl, hH, q⟩ := h
 obtain ⟨u, rfl, ru⟩ := rv.one
 cases ru
 have ob : ObjOk X.prog X.w H s.heap p (.dK kvs) := by
  rcases hH with e | ⟨o, e⟩
  . exact I.hok p _ e
  . exact (I.hok p _ e).2
 obtain ⟨hz, hs, vs, kv, dof⟩ := ob
 obtain ⟨ep, da⟩ := dof.dictAt
 have hlen : vs.length = kvs.length := kv.length.symm
 refine call_list_dict (I.ok.hd hc) hs (by rw [hlen]; exact hz) da fun s' acc c eg ed eo hk hs' hacc => ?_
 obtain ⟨h', g', d', tk', os'⟩ := s'
 have eg : g' = s.gens := eg
 have ed : d' = s.drawn := ed
 have eo : os' = s.os := eo
 subst eg; subst ed; subst eo
 refine ⟨.ref s.heap.objs.size, _, I.laid (t' := tk') (o := .lst (kvs.map fun kv => kV kv.1)) (fun b ob e => hk b ob e) (Nat.le_refl _) ?_, rfl, q _ (I.hok.fresh (Nat.le_refl _))⟩
 exact ⟨by rw [List.length_map]; exact hz, acc.toList, c, items_keys kv hacc, by simpa using hs'⟩
end
section
variable {σ : St} {H : Hp} {Q : VK} {p : Addr} {m : List (Str × PyData)}
theorem DKs.keys {H H' : Hp} : ∀ {kvs : List (Key × V)} {m : List (Str × PyData)}, DKs H kvs m -> Dvs H' (kvs.map fun kv => kV kv.1) ((m.map (·.1)).map PyData.str)
 | _, _, .nil => .nil
 | _, _, .cons _ _ r => .cons (.str _) (DKs.keys r)
theorem immAll_strs : ∀ ss : List Str, ImmAll (ss.map PyData.str) = true
 | [] => rfl
 | _ :: r => by rw [List.map_cons, ImmAll, immAll_strs r]; rfl
theorem r_listD (hp : DRd H p m) (k : ∀ q H', Same H H' -> H q = none -> LAt H' q ((m.map (·.1)).map PyData.str) -> Q (.ref q) H') : rListD [.ref p] H Q := by
 obtain ⟨kvs, e, dk⟩ := hp
 exact ⟨p, kvs, rfl, e, fun q hq => k q _ (same_upd hq) hq (lat_upd hq dk.keys (immAll_strs _))⟩
end
theorem entry_itemiter_iter : entryFor table "dict_itemiterator.__iter__" = some Builtin.«dict_keyiterator.__iter__» :=
 entryFor_alias (id' := "dict_keyiterator.__iter__") (by kernel_rfl) rfl (by decide +kernel) (by kernel_rfl)
def Iti (d : Addr) (o : Obj) (kvs : List (Key × V)) : It := ⟨fun i H => i < kvs.length /\ H d = some (.frz o (.dK kvs)), fun i H v H' => ∃ t kv, kvs[i]? = some kv /\ v = .ref t /\ H t = none /\ H' = upd H t (.tup [kV kv.1, kv.2]), fun i H => i = kvs.length /\ H d = some (.frz o (.dK kvs))⟩
theorem turn_items {P : Program} {w : World} {K : PySem.W.Frag} {elts : List Expr} {x1} {pos : Pos} {it d : Addr} {o : Obj} {kvs : List (Key × V)} {es : Array DictEntry} {ep : Nat} (he : o.data = .dict es ep) (hne : d ≠ it) :
 Turn P w K (.Tuple elts x1 pos) (Iti d o kvs) [it] it (fun i h => ∃ ok ov, IsItemIter h it d i kvs.length ep ok ov) where
 mem := by simp
 obj := fun i h st b hb => by
  have e : b = it := by simpa using hb
  subst e
  obtain ⟨ok, ov, e⟩ := st
  exact ⟨_, e, fun v z => by cases z⟩
 keep := fun i h h' st k => let ⟨ok, ov, e⟩ := st; ⟨ok, ov, k it (by simp) _ e⟩
 item := by
  intro X hP hw hK hc i pins s σ H E I hf st hg
  subst hP hw hK
  obtain ⟨f0, f1, f2, f3, f4, f5⟩ := hf it (by simp)
  obtain ⟨hi, hd⟩ := hg
  obtain ⟨_, vs, kv, da⟩ := dict_at I.hok hd he
  have hl : vs.length = kvs.length := kv.length.symm
  obtain ⟨ok, ov, st⟩ := st
  obtain ⟨q, hq⟩ : ∃ q, kvs[i]? = some q := ⟨_, List.getElem?_eq_getElem hi⟩
  obtain ⟨⟨k, v⟩, hy, hy2⟩ := paired_get kv hq
  have hil : it < s.heap.objs.size := Heap.lt_size st
  have hn : H s.heap.objs.size = none := I.hok.fresh (Nat.le_refl _)
  refine wpAny_pyNext_items_item (knd := mixKind X.prog X.w) (by rw [hl]; exact st) da hy fun key h' hk hit ht hz kk => ?_
  rw [hl] at hit
  refine ⟨_, rfl, wpAny_letOwnedTupleGo_items (s := { s with heap := h' }) hit fun h2 hit2 sb => ?_⟩
  have I1 : Inv X pins σ (upd H s.heap.objs.size (.tup [kV q.1, q.2])) { s with heap := s.heap.push { cls := .type "tuple", data := .seq #[key, v] } } :=
   I.laid (t' := s.toks) (fun b u e => Heap.get?_push_of_some _ e) (Nat.le_refl _) (show ObjOk X.prog X.w _ _ _ (.tup [kV q.1, q.2]) from ⟨by rw [sizeLine_eq]; simp, [key, v], .cons (by rw [hy2.1]; exact relV_key hk) (.cons hy2.2 .nil), IsTup.new _ _⟩)
  have hni : upd H s.heap.objs.size (.tup [kV q.1, q.2]) it = none := by rw [upd_ne (Nat.ne_of_lt hil)]; exact f0
  have I2 : Inv X pins σ (upd H s.heap.objs.size (.tup [kV q.1, q.2])) { s with heap := h2 } := by
   refine Inv.turned (s := { s with heap := s.heap.push { cls := .type "tuple", data := .seq #[key, v] } }) (h' := h2) (t' := s.toks) (it := it) I1 (fun b u hb e => ?_) hni f1 f3 f4 f5
   by_cases hbn : b = s.heap.objs.size
   . subst hbn
     have e0 : (s.heap.push { cls := .type "tuple", data := .seq #[key, v] }).get? s.heap.objs.size = some { cls := .type "tuple", data := .seq #[key, v] } := Heap.get?_push_size _ rfl
     have e1 := e0.symm.trans e
     cases e1
     exact (sb.2 _ hb).trans ht
   . exact (sb.2 _ hb).trans (kk b u hb (push_other e hbn))
  refine ⟨.ref s.heap.objs.size, _, I2, rfl, ⟨_, q, hq, rfl, hn, rfl⟩, ⟨_, _, hit2⟩, fun b hb => ?_⟩
  have e : b = it := by simpa using hb
  rw [e]
  exact hni
 done := by
  intro X hP hw hK hc i pins s σ H E I hf st hg
  subst hP hw hK
  obtain ⟨f0, f1, f2, f3, f4, f5⟩ := hf it (by simp)
  obtain ⟨hi, hd⟩ := hg
  obtain ⟨_, vs, kv, da⟩ := dict_at I.hok hd he
  have hl : vs.length = kvs.length := kv.length.symm
  obtain ⟨ok, ov, st⟩ := st
  refine wpAny_pyNext_items_end (knd := mixKind X.prog X.w) (I.ok.hd hc) (by rw [hl]; exact st) da (by rw [hi, <- hl]; simp) fun h' hx => ⟨rfl, I.turned (t' := s.toks) (fun b u hb e => hx b u hb e) f0 f1 f3 f4 f5⟩
 self := fun A i s Q E st q => by
  obtain ⟨ok, ov, st⟩ := st
  have hT : s.TypeIs (.ref it) "dict_itemiterator" := ⟨_, st, rfl⟩
  refine wpAny_pyIter_slot hT F.slot_dict_itemiterator_iter (wpAny_call_entry F.slot_dict_itemiterator_iter hT entry_itemiter_iter ?_ (F.args_dict_itemiterator_iter_1 _))
  show wpAny _ _ (ret (.ref it)) _ _ s
  exact wpAny_pure ⟨_, rfl, "dict_itemiterator", _, hT, F.slot_dict_itemiterator_next.lookup, q⟩
def iItems (tl : TE) : TI := fun σ H R => tl σ H fun v H1 => ∃ d kvs, v = .ref d /\ H1 d = some (.dK kvs) /\ ∀ o, R (Iti d o kvs) (upd H1 d (.frz o (.dK kvs)))
theorem pi_items {X : Cx} {elts : List Expr} {x1} {tpos : Pos} {l : Expr} {tl : TE} {apos cpos : Pos} (hl : PE X l tl)
 (hbase : attributeBase l "items" X.env (eval l X.env) = eval l X.env := by rfl) (hline : (apos.endLine == cpos.line) = true := by rfl) : PI X (.Tuple elts x1 tpos) (.Call (.Attribute l "items" apos) [] [] cpos) (iItems tl) := by
 intro pins s σ H R I h
 refine wpAny_Call_method0_late hbase hline (thn (hl pins s σ H _ I h) fun v s1 ⟨y, H1, I1, r1, q1⟩ => ?_)
 obtain ⟨d, kvs, rfl, hd, q⟩ := q1
 obtain ⟨h1, h2⟩ := tyV_is I1 (T := "dict") r1 (.inr (.inr (.inl ⟨rfl, .inl ⟨kvs, hd⟩⟩)))
 cases r1
 refine ⟨"dict", "dict.items", PySem.F.plainAttrs_dict, PySem.F.slot_dict_items, PySem.F.type_dict_items, h1, h2, Calls.callWith_builtin rfl (PySem.evalArgs_none ?_)⟩
 obtain ⟨_, hs, vs, kv, o, es, ep, ho, a2, a3, a4⟩ := (show ObjOk X.prog X.w H1 s1.heap d (.dK kvs) from I1.hok d _ hd)
 have da : s1.heap.DictAt (mixKind X.prog X.w) d vs ep := ⟨o, es, ho, a2, a3, a4⟩
 have hlt : d < s1.heap.objs.size := Heap.lt_size ho
 have hlen : vs.length = kvs.length := kv.length.symm
 refine call_meetsIn PySem.F.slot_dict_items da.dictOf.typeIs PySem.F.entry_dict_items (PySem.F.args_dict_items_1 _) (meets_dict_items (mixKind X.prog X.w) d hs) ⟨⟨vs, da.dictOf⟩, ?_⟩
 refine wpAny_pyIter_items (v := s1.heap.objs.size) ⟨_, Heap.get?_push_size _ rfl, rfl, rfl⟩ (da.push _) ?_
 have I2 := I1.freeze hd ho
 have hsz : (s1.heap.push { cls := .type "dict_items", data := .fields #[.ref d] }).objs.size = s1.heap.objs.size + 1 := Heap.size_push ..
 refine ⟨_, [_], _, _, _, rfl, I2.kept (t' := s1.toks) fun b u e => Heap.get?_push_of_some _ (Heap.get?_push_of_some _ e), turn_items a3 (Nat.ne_of_lt (by rw [hsz]; exact Nat.lt_succ_of_lt hlt)), ⟨_, _, by rw [<- hlen]; exact Heap.get?_push_size _ rfl⟩, fun b hb => ?_, q o⟩
 have e : b = (s1.heap.push { cls := .type "dict_items", data := .fields #[.ref d] }).objs.size := by simpa using hb
 subst e
 exact I2.fpOk (by rw [hsz]; exact Nat.le_succ _) (I2.hok.fresh (by rw [hsz]; exact Nat.le_succ _))
section
variable {σ : St} {H : Hp} {D : Ends} {p : Addr} {m : List (Str × PyData)} {g : TG} {tb : TS}
end
section
variable {σ : St} {H : Hp} {K : PySem.W.Frag}
theorem r_unpP {x : V} {i j : Nat} {d1 d2 : PyData} {R : St -> Hp -> Prop} (hd : Dv H x (.tuple [d1, d2])) (h : ∀ v1 v2, Dv H v1 d1 -> Dv H v2 d2 -> R ((σ.set i (some v1)).set j (some v2)) H) :
 gTup K 2 (gCons (gName i) (gCons (gName j) gNil)) x σ H R := by
 cases hd with
 | tup ha r =>
   cases r with
   | cons h1 r =>
     cases r with
     | cons h2 r =>
       cases r
       exact ⟨_, _, rfl, .of ha, rfl, _, _, rfl, _, _, rfl, rfl, h _ _ h1 h2⟩
end
end L2
namespace L2
open PySem
def UpA (xs : Array Nat) : Prop := ∀ i j, (hi : i < xs.size) -> (hj : j < xs.size) -> i < j -> xs[i] < xs[j]
structure Good (t : SetTable) : Prop where
 up : UpA t.place
 nd : t.dummies = #[]
section
variable {prog : Program} {w : World} {A : Around} {E : Value -> Shared -> Prop} {s : Shared}
end
section
variable {prog : Program} {w : World} {A : Around} {E : Value -> Shared -> Prop} {s : Shared}
end
set_option maxRecDepth 100000
section
variable {prog : Program} {w : World} {A : Around} {E : Value -> Shared -> Prop} {s : Shared} {it a : Addr} {o : Obj} {es : Array (Int × Value)} {ep : Nat} {t : SetTable}
end
section
variable {prog : Program} {w : World} {A : Around} {E : Value -> Shared -> Prop} {s : Shared} {it a : Addr} {o : Obj} {es : Array (Int × Value)} {ep : Nat} {t : SetTable}
end
section
variable {prog : Program} {w : World} {A : Around} {E : Value -> Shared -> Prop} {s : Shared} {it a : Addr} {o : Obj} {es : Array (Int × Value)} {ep : Nat} {t : SetTable}
end
end L2
namespace L2
open PySem PySem.Spec PyProof.Rows
section
variable {prog : Program} {w : World} {A : Around} {R : Result -> Shared -> Prop} {it y : Addr} {fp wr : List Addr} {G : Array GenState -> Array GenState -> Prop} {n : Nat} {Pv : Nat -> Value -> Prop} {St : Nat -> Shared -> Prop}
end
section
variable {prog : Program} {w : World} {A : Around} {E : Value -> Shared -> Prop} {s : Shared}
set_option maxRecDepth 100000 in
set_option maxHeartbeats 3200000 in
end
section
variable {prog : Program} {w : World} {A : Around} {E : Value -> Shared -> Prop} {s : Shared} {a : Addr} {S : Int -> Bool} {n : Nat}
end
end L2
namespace L2
open PySem PySem.Spec PyProof.Rows PySem.W
section
variable {X : Cx} {e : Expr} {te : TE} {p p2 pos pos2 : Pos}
theorem dvs_ints {H : Hp} : ∀ (ns : List Int), Dvs H (ns.map V.int) (ns.map PyData.int)
 | [] => .nil
 | x :: r => .cons (.int x) (dvs_ints r)
end
section
variable {σ : St} {H : Hp} {Q : VK} {v : V}
end
section
variable {X : Cx}
end
section
variable {σ : St} {H : Hp} {Q : VK} {K : PySem.W.Frag} {p : Addr} {m : List (Str × PyData)}
end
def Tr (h : Heap) (a T : Addr) (c : Value) : Prop := ∃ oe vs oT ts, h.get? a = some oe /\ oe.cls = c /\ oe.dict = none /\ oe.data = .fields vs /\ vs[1]? = some (.ref T) /\ T ≠ a /\ h.get? T = some oT /\ oT.data = .fields ts /\ ts[3]? = some .none /\ vs[2]? = some .none
structure Lv (l : List Env) (S : List Addr) (h h' : Heap) : Prop where
 keep : ∀ b o, b ∉ frs l -> b ∉ S -> h.get? b = some o -> h'.get? b = some o
 slot : ∀ b o, b ∈ frs l -> h.get? b = some o -> ∃ sl, h'.get? b = some { o with slots := sl }
section
variable {M : Model} {A : Around} {E : Value -> Shared -> Prop} {s : Shared} {env : Env} {outer : List Env} {L a T : Addr} {c : Value} {base : Heap} {Q : Unit -> Shared -> Prop}
end
theorem ObjOk.live {P : Program} {w : World} {H : Hp} {h : Heap} {a : Addr} {o : HO} (x : ObjOk P w H h a o) : ∃ ob, h.get? a = some ob := by
 induction o with
 | lst xs => obtain ⟨_, _, _, _, e⟩ := x; exact ⟨_, e⟩
 | tup xs => obtain ⟨_, _, _, ob, e, _⟩ := x; exact ⟨_, e⟩
 | dK kvs => obtain ⟨_, _, _, _, o, _, _, e, _⟩ := x; exact ⟨_, e⟩
 | dT kvs => obtain ⟨_, _, _, _, o, _, _, e, _⟩ := x; exact ⟨_, e⟩
 | set S n => obtain ⟨o, _, _, _, e, _⟩ := x; exact ⟨_, e⟩
 | ins C dx fs => obtain ⟨_, _, _, e, _⟩ := x; exact ⟨_, e⟩
 | own y => exact x
 | xd fs => obtain ⟨_, ⟨_, _, _, e, _⟩, _⟩ := x; exact ⟨_, e⟩
 | rng lo hi => obtain ⟨_, _, _, e⟩ := x; exact ⟨_, e⟩
 | frz ob u _ => exact ⟨_, x.1⟩
 | tbl ps => exact ⟨_, x⟩
 | met f y => exact ⟨_, x⟩
 | ext φ => exact x.2.1
theorem HOk.dead {P : Program} {w : World} {H : Hp} {h : Heap} {a : Addr} (ok : HOk P w H h) (n : h.get? a = none) : H a = none := by
 cases e : H a with
 | none => rfl
 | some u =>
   obtain ⟨o, z⟩ := (ok a u e).live
   rw [n] at z
   cases z
def CXR (P : Program) (w : World) : CXT := fun outer H s E e s' => ∃ a T C H', e = .ref a /\ s'.os = s.os /\ AllBare s'.gens /\ Un (frs outer) [] H H' s.heap s'.heap /\ HOk P w H' s'.heap /\ Tr s'.heap a T (.ref C) /\ s.heap.get? a = none /\ s.heap.get? T = none /\ H' a = none /\ H' T = none /\ E (.ref C) none H'
section
variable {P : Program} {w : World} {K : PySem.W.Frag} {mg : Str -> Option Value} {base : Heap} {N : List Str} {qual : Str} {scope : Scope} {f : Addr} {cd : Value} {A : Around} {outer : List Env} {s0 : Shared} {H0 : Hp} {E : XK} {CX : CXT} {pins : List (Addr × Obj)} {σ : St} {H : Hp} {s : Shared}
end
section
variable {K : PySem.W.Frag} {h : Heap} {C : Addr} {bmB : List Value} {newId : String}
def ExcCls (h : Heap) (C : Addr) (bmB : List Value) (newId : String) : Prop := ∃ (bm : List Value) (N : Addr) (nm q : Str) (bs : List Value) (hd : Bool) (sn : List Str) (sub : List Value) (ab : Bool) (col : Option Bool) (dd : Option Addr) (k0 k1 k2 k3 k5 : Option Value) (mN : Str -> Option Value),
 h.get? C = some (excClassObj nm q C N bs bm hd sn sub ab col dd k0 k1 k2 k3 k5 newId) /\ h.Ns N mN /\ mN "__init__" = none /\ OwnTail h bmB bm
theorem exc_of (X : K.In h) (q : excIn K C bmB newId = true) : ExcCls h C bmB newId := by
 unfold excIn at q
 split at q
 . rename_i dd cd sl ho
   split at q
   . rename_i C' bm k0 k1 k2 k3 n k5 hm hs
     simp only [Bool.and_eq_true, beq_iff_eq, Bool.not_eq_true'] at q
     obtain ⟨⟨⟨⟨⟨rfl, rfl⟩, hdel⟩, ht⟩, hok⟩, hni⟩ := q
     obtain ⟨nm, bs, mro, ns, qn, hd, sn, sub, ab, col, del⟩ := cd
     dsimp only at hm hdel hok hni
     subst hm hdel
     obtain ⟨l⟩ := sl
     dsimp only at hs
     subst hs
     exact ⟨bm, ns, nm, qn, bs, hd, sn, sub, ab, col, dd, k0, k1, k2, k3, k5, _, X _ _ ho, .of_isNs (isNs_of_in X hok), nsMap_none_of_in X hok hni, tail_of_in X ht⟩
   . cases q
 . cases q
end
abbrev veB : List Value := [.type "ValueError", .type "Exception", .type "BaseException", .type "object"]
def ExcK (K : PySem.W.Frag) (C : Addr) : Prop := excIn K C veB "ValueError.__new__" = true
section
variable {X : Cx} {pins : List (Addr × Obj)} {σ : St} {H : Hp} {s : Shared}
theorem Inv.trackE {a : Addr} {φ : Heap -> Prop} (I : Inv X pins σ H s) (ha : H a = none) (hs : X.s₀.heap.get? a = none) (hL : a ≠ X.env.locals) (hc : ∀ x c, X.env.cells.lookup x = some c -> c ≠ a) (hp : ∀ p ∈ X.pn ++ pins, p.1 ≠ a)
 (new : φ s.heap /\ (∃ o, s.heap.get? a = some o) /\ ∀ h1 h2 : Heap, φ h1 -> (∀ o, h1.get? a = some o -> h2.get? a = some o) -> φ h2) : Inv X pins σ (upd H a (.ext φ)) s := by
 have kp : ∀ b u, H b = some u -> upd H a (.ext φ) b = some u := fun b u e => by rw [upd_ne (fun z => by rw [z, ha] at e; cases e)]; exact e
 have fr : ∀ b, b ≠ a -> H b = none -> upd H a (.ext φ) b = none := fun b n e => by rw [upd_ne n]; exact e
 refine ⟨I.ok, I.os, I.bare, ⟨I.base.keep, I.base.slot, fun b o e n hx => fr b (fun z => by rw [z, hs] at e; cases e) (I.base.free b o e n hx), I.base.there, fun b xs e => kp _ _ (I.base.tups b xs e), fun b o u e => kp _ _ (I.base.frzs b o u e), fun b ps e => ?_⟩, I.loc, I.cell, fr _ (Ne.symm hL) I.free, fun x c e => fr _ (hc x c e) (I.freeC x c e), fun p hp' => ?_, fun b u e => ?_, I.len⟩
 . obtain ⟨m, z⟩ := I.base.tbls b ps e
   exact ⟨m, kp _ _ z⟩
 . obtain ⟨e1, e2, e3⟩ := I.pin p hp'
   exact ⟨e1, fr _ (hp p hp') e2, e3⟩
 . by_cases z : b = a
   . subst z
     rw [upd_same] at e
     cases e
     exact new
   . rw [upd_ne z] at e
     exact (I.hok b u e).stay (fun _ _ _ q => q) (fun c q => kp _ _ q) fun c xs q => kp _ _ q
abbrev Cx.hand (X : Cx) (a : Addr) : Cx := { X with A := X.A.mark (some (.ref a)), calm := false, xe := fun _ _ => False }
end
section
variable {M : Model} {A : Around} {E : Value -> Shared -> Prop}
end
structure TyE (K : PySem.W.Frag) (C : Addr) : Prop where
 ga : PySem.W.findIn K (.ref C) "__getattribute__" = some (some (.builtin "BaseException.__getattribute__"))
 gn : PySem.W.findIn K (.ref C) "__getattr__" = some none
 mb : PySem.W.mroIn K C (.type "BaseException") = some true
 hd : PySem.W.hasDictIn K C = true
 ty : TyCls K C
section
variable {X : Cx}
end
section
variable {P : Program} {w : World} {K : PySem.W.Frag} {mg : Str -> Option Value} {base : Heap}
structure CalR (P : Program) (w : World) (K : PySem.W.Frag) (mg : Str -> Option Value) (base : Heap) (k : Nat) (f : Addr) (ps : List Str) (dvs : List V) (sp : Sp) : Prop where
 ex : ∃ (fd : FuncData) (ds : List Value), FnOk P w K mg base (CXR P w) k f fd ps sp /\ Binds K fd ps ds /\ Vals dvs ds
end
section
variable {X : Cx} {k : Nat} {f : Addr} {ps : List Str} {sp : Sp} {dvs : List V} {E : XK} {x : Str} {p pos : Pos} {e : Expr} {es : List Expr} {t : TA}
end
section
variable {σ : St} {H : Hp} {Q : VK} {D : Ends} {K : PySem.W.Frag} {E : XK} {C : Addr} {ta : TA}
theorem r_raised {x : V} (h : E (.ref C) none H) : [x].length <= sizeLine /\ E (.ref C) none H := ⟨by rw [sizeLine_eq]; simp, h⟩
end
section
variable {X : Cx}
def rMulL : R2 := fun x y H Q => ∃ (z : Str) (n : Int), x = .str z /\ y = .int n /\ z.length = 1 /\ 0 <= n /\ n <= 1000 /\ ∀ t : Str, t.length = n.toNat -> (∀ c ∈ t.cps.toList, c ∈ z.cps.toList) -> Q (.str t) H
theorem repl_all (c : Nat) : ∀ (n : Nat) (a : Array Nat), ((List.replicate n #[c]).foldl (· ++ ·) a) = a ++ (Array.replicate n c)
 | 0, a => by simp
 | n + 1, a => by
   rw [List.replicate_succ, List.foldl_cons, repl_all c n, Array.append_assoc]
   congr 1
   apply Array.toList_inj.mp
   simp [List.replicate_succ]
theorem op_mulL : OpR X (binaryOp .Mult) rMulL := by
 intro pins s σ H x y v u Q I rx ry h
 obtain ⟨z, n, rfl, rfl, hz, h0, h1, q⟩ := h
 obtain ⟨t, rfl⟩ := rx
 obtain ⟨t', rfl⟩ := ry
 refine PySem.P.mul_str (by simp; omega) (fun a _ => ?_) (fun a _ => ?_) ?_
 . rw [hz]
   intro hgt
   have h2 : (1 : Int) <= (2 ^ 63 - 1) / n := Int.le_ediv_of_mul_le (by omega) (by omega)
   exact absurd h2 (Int.not_le.mpr hgt)
 . have : z.length * n.toNat <= 1000 := by rw [hz]; omega
   exact decide_eq_false (Nat.not_lt.mpr (Nat.le_trans this (Nat.le_of_lt (smaller (by decide)))))
 . split
   . rename_i c
     have : n = 0 := by omega
     subst this
     exact ⟨Nat.le_of_lt (smaller (by decide)), .str _, H, I.tok _, ⟨_, rfl⟩, q Str.empty rfl (fun c hc => by cases hc)⟩
   . split
     . rename_i c c2
       have : n = 1 := by
        rw [hz] at c2
        simpa using c2
       subst this
       exact ⟨.str _, H, I, ⟨_, rfl⟩, q z hz (fun c hc => hc)⟩
     . obtain ⟨⟨l⟩⟩ := z
       match l, hz with
       | [d], _ =>
         have e : (List.replicate n.toNat (⟨⟨[d]⟩⟩ : Str).cps).foldl (· ++ ·) #[] = Array.replicate n.toNat d := by
          have := repl_all d n.toNat #[]
          simpa using this
         have hl : (⟨Array.replicate n.toNat d⟩ : Str).length = n.toNat := by show (Array.replicate n.toNat d).size = _; simp
         show Made.post (Made.str ⟨_⟩) _ _
         rw [e]
         exact ⟨by rw [hl]; exact Nat.le_of_lt (smaller (by omega)), .str _, H, I.tok _, ⟨_, rfl⟩, q _ hl (fun c hc => by
          have : c ∈ List.replicate n.toNat d := by simpa using hc
          have := List.eq_of_mem_replicate this
          subst this
          simp)⟩
end
section
variable {σ : St} {H : Hp} {Q : VK} {D : Ends} {K : PySem.W.Frag}
theorem r_mulL {z : Str} {n : Int} (hz : z.length = 1) (h0 : 0 <= n) (h1 : n <= 1000) (h : ∀ t : Str, t.length = n.toNat -> (∀ c ∈ t.cps.toList, c ∈ z.cps.toList) -> Q (.str t) H) : rMulL (.str z) (.int n) H Q := ⟨z, n, rfl, rfl, hz, h0, h1, h⟩
end
section
variable {X : Cx} {pins : List (Addr × Obj)} {σ : St} {H : Hp} {s : Shared} {h' : Heap}
theorem Inv.turned2 {t' : Nat} {i1 i2 : Addr} (I : Inv X pins σ H s) (k : ∀ b o, b ≠ i1 -> b ≠ i2 -> s.heap.get? b = some o -> h'.get? b = some o) (f1 : FpOk X pins H i1) (f2 : FpOk X pins H i2) : Inv X pins σ H { s with heap := h', toks := t' } := by
 have nit : ∀ b u, H b = some u -> b ≠ i1 /\ b ≠ i2 := fun b u e => ⟨fun z => (by rw [z, f1.1] at e; cases e), fun z => (by rw [z, f2.1] at e; cases e)⟩
 have nc : ∀ {b : Addr}, b ∉ [i1, i2] -> b ≠ i1 /\ b ≠ i2 := fun {b} h => by simpa using h
 refine I.step (g' := s.gens) (d' := s.drawn) (ch := [i1, i2]) (fun b hb => ?_) (fun b o _ _ hc e _ => k b o (nc hc).1 (nc hc).2 e) (fun b o _ _ hc e _ => ⟨o.slots, k b o (nc hc).1 (nc hc).2 e⟩) (fun _ _ _ _ n => n)
  (fun b o hc e => ⟨o, k b o (nc hc).1 (nc hc).2 e⟩) (fun _ _ e => e) (fun _ _ _ e => e) (fun b ps e => ⟨#[], by rw [e]; simp⟩) (fun m hm => ?_) (fun b u e => ?_) I.bare
 . have e : b = i1 \/ b = i2 := by simpa using hb
   rcases e with rfl | rfl
   . exact ⟨f1.2.2.2.1, f1.2.1, f1.2.2.2.2.1, f1.2.2.2.2.2⟩
   . exact ⟨f2.2.2.2.1, f2.2.1, f2.2.2.2.2.1, f2.2.2.2.2.2⟩
 . obtain ⟨o, es, ep, ho, r⟩ := hm
   exact ⟨o, es, ep, k _ o (Ne.symm f1.2.1) (Ne.symm f2.2.1) ho, r⟩
 . refine (I.hok b u e).stay (fun c v hc q => k c v ?_ ?_ q) (fun _ q => q) fun _ _ q => q
   . rcases hc with z | z
     . rw [z]; exact (nit b u e).1
     . exact (nit c _ z).1
   . rcases hc with z | z
     . rw [z]; exact (nit b u e).2
     . exact (nit c _ z).2
end
theorem entry_enum_iter : entryFor table "enumerate.__iter__" = some Builtin.«dict_keyiterator.__iter__» :=
 entryFor_alias (id' := "dict_keyiterator.__iter__") (by kernel_rfl) rfl (by decide +kernel) (by kernel_rfl)
def Itn (K : PySem.W.Frag) (a : Addr) : It := ⟨fun i H => ∃ xs x, SqL K H a xs /\ xs[i]? = some x, fun i H v H' => ∃ t x, (∀ xs, SqL K H a xs -> xs[i]? = some x) /\ v = .ref t /\ H t = none /\ H' = upd H t (.tup [.int i, x]), fun i H => ∃ xs, SqL K H a xs /\ xs.length <= i⟩
theorem turn_enum {P : Program} {w : World} {K : PySem.W.Frag} {elts : List Expr} {x1} {pos : Pos} {e it a : Addr} (hne : e ≠ it) :
 Turn P w K (.Tuple elts x1 pos) (Itn K a) [e, it] e (fun i h => (∃ old, IsEnum h e it (i : Nat) old) /\ h.IsListIter it a i) where
 mem := by simp
 obj := fun i h st b hb => by
  have e' : b = e \/ b = it := by simpa using hb
  obtain ⟨⟨old, q⟩, o, e1, c, d⟩ := st
  rcases e' with rfl | rfl
  . exact ⟨_, q, fun v z => by cases z⟩
  . exact ⟨o, e1, fun v z => by rw [d] at z; cases z⟩
 keep := fun i h h' st k => ⟨let ⟨old, q⟩ := st.1; ⟨old, k e (by simp) _ q⟩, st.2.at fun o q => k it (by simp) o q⟩
 item := by
  intro X hP hw hK hc i pins s σ H E I hf st hg
  subst hP hw hK
  have fe := hf e (by simp)
  have fi := hf it (by simp)
  obtain ⟨xs, x, hq, hx⟩ := hg
  obtain ⟨its, rv, p, hz⟩ := I.list hq
  obtain ⟨u, hu, ru⟩ := rv.get hx
  obtain ⟨⟨old, he⟩, hit⟩ := st
  have hel : e < s.heap.objs.size := Heap.lt_size he
  have hil : it < s.heap.objs.size := by obtain ⟨o, ho, _⟩ := id hit; exact Heap.lt_size ho
  have hn : H s.heap.objs.size = none := I.hok.fresh (Nat.le_refl _)
  refine wpAny_pyNext_enum_item he hit p.isList (x := u) (by simpa using hu) hne fun h' heo hit' ht hz' kk => ?_
  refine ⟨_, rfl, wpAny_letOwnedTupleGo_enum (s := { s with heap := h', toks := s.toks + 1 }) heo fun h2 he2 sb => ?_⟩
  replace sb : Heap.SameBut e h' h2 := sb
  let tb : Obj := { cls := .type "tuple", data := .seq #[.int i s.toks, u] }
  have I1 : Inv X pins σ (upd H s.heap.objs.size (.tup [.int i, x])) { s with heap := s.heap.push tb } :=
   I.laid (t' := s.toks) (fun b u e => Heap.get?_push_of_some _ e) (Nat.le_refl _) (show ObjOk X.prog X.w _ _ _ (.tup [.int i, x]) from ⟨by rw [sizeLine_eq]; simp, [.int i s.toks, u], .cons ⟨_, rfl⟩ (.cons ru .nil), IsTup.new _ _⟩)
  have hne' : upd H s.heap.objs.size (.tup [.int i, x]) e = none := by rw [upd_ne (Nat.ne_of_lt hel)]; exact fe.1
  have hni' : upd H s.heap.objs.size (.tup [.int i, x]) it = none := by rw [upd_ne (Nat.ne_of_lt hil)]; exact fi.1
  have I2 : Inv X pins σ (upd H s.heap.objs.size (.tup [.int i, x])) { s with heap := h2, toks := s.toks + 1 } := by
   refine Inv.turned2 (s := { s with heap := s.heap.push tb }) (h' := h2) (t' := s.toks + 1) (i1 := e) (i2 := it) I1 (fun b u' hb1 hb2 q => ?_) ⟨hne', fe.2⟩ ⟨hni', fi.2⟩
   by_cases hbn : b = s.heap.objs.size
   . subst hbn
     have e0 : (s.heap.push tb).get? s.heap.objs.size = some tb := Heap.get?_push_size _ rfl
     have e1 := e0.symm.trans q
     cases e1
     exact (sb.2 _ hb1).trans ht
   . exact (sb.2 _ hb1).trans (kk b u' hb1 hb2 (push_other q hbn))
  refine ⟨.ref s.heap.objs.size, _, I2, rfl, ⟨_, x, fun ys hy => by rw [I.list_inj hy hq]; exact hx, rfl, hn, rfl⟩, ⟨⟨_, he2⟩, hit'.at fun o q => (sb.2 it (Ne.symm hne)).trans q⟩, fun b hb => ?_⟩
  have e' : b = e \/ b = it := by simpa using hb
  rcases e' with rfl | rfl
  . exact hne'
  . exact hni'
 done := by
  intro X hP hw hK hc i pins s σ H E I hf st hg
  subst hP hw hK
  obtain ⟨f0, f1, f2, f3, f4, f5⟩ := hf it (by simp)
  obtain ⟨xs, hq, hx⟩ := hg
  obtain ⟨its, rv, p, hz⟩ := I.list hq
  have hl := rv.length
  obtain ⟨⟨old, he⟩, hit⟩ := st
  exact wpAny_pyNext_enum_end (I.ok.hd hc) he hit p.isList (by simp; omega) fun h' eb => ⟨rfl, I.turned (t' := s.toks) (fun b o hb e => eb b o hb e) f0 f1 f3 f4 f5⟩
 self := fun A i s Q E st q => by
  obtain ⟨⟨old, he⟩, hit⟩ := st
  have hT : s.TypeIs (.ref e) "enumerate" := ⟨_, he, rfl⟩
  refine wpAny_pyIter_slot hT F.slot_enumerate_iter (wpAny_call_entry F.slot_enumerate_iter hT entry_enum_iter ?_ (F.args_enumerate_iter_1 _))
  show wpAny _ _ (ret (.ref e)) _ _ s
  exact wpAny_pure ⟨_, rfl, "enumerate", _, hT, F.slot_enumerate_next.lookup, q⟩
def iEnum (K : PySem.W.Frag) (ta : TA) : TI := fun σ H R => ta σ H fun vs H1 => ∃ a, vs = [.ref a] /\ (∃ xs, SqL K H1 a xs) /\ R (Itn K a) H1
theorem pi_enum {X : Cx} {elts : List Expr} {x1} {tpos : Pos} {a : Expr} {ta : TA} {p pos : Pos} (hg : Gl X "enumerate") (hm : X.mg "enumerate" = none) (ha : PA X [a] ta) (hs : starEach [a] X.env = [(false, eval a X.env)] := by rfl) :
 PI X (.Tuple elts x1 tpos) (.Call (.Name "enumerate" p) [a] [] pos) (iEnum X.K ta) := by
 intro pins s σ H R I h
 refine Call_ (ld_blt I hg hm boot_enumerate (PyProof.Rows.callWith_type1 (thn (ha pos pins s σ H _ I h) fun us s1 ⟨vs, H1, I1, r1, q1⟩ => ?_) hs rfl))
 obtain ⟨l, e, ⟨xs, hq⟩, q⟩ := q1
 subst e
 cases r1 with
 | cons r rr =>
   cases rr
   cases r
   obtain ⟨its, rv, p, hz⟩ := I1.list hq
   refine call_enumerate_list p.isList fun h' he hit hsz hk => ?_
   have hT : (⟨h', s1.gens, s1.drawn, s1.toks, s1.os⟩ : Shared).TypeIs (.ref (s1.heap.objs.size + 1)) "enumerate" := ⟨_, he, rfl⟩
   refine wpAny_pyIter_slot hT F.slot_enumerate_iter (wpAny_call_entry F.slot_enumerate_iter hT entry_enum_iter ?_ (F.args_enumerate_iter_1 _))
   show wpAny _ _ (ret (.ref (s1.heap.objs.size + 1))) _ _ _
   refine wpAny_pure ⟨_, rfl, "enumerate", _, hT, F.slot_enumerate_next.lookup, ?_⟩
   refine ⟨s1.heap.objs.size + 1, [s1.heap.objs.size + 1, s1.heap.objs.size], _, _, H1, rfl, I1.kept (t' := s1.toks) hk, turn_enum (a := l) (Nat.succ_ne_self _), ⟨⟨_, he⟩, hit⟩, fun b hb => ?_, q⟩
   have e : b = s1.heap.objs.size + 1 \/ b = s1.heap.objs.size := by simpa using hb
   rcases e with rfl | rfl
   . exact I1.fpOk (Nat.le_succ _) (I1.hok.fresh (Nat.le_succ _))
   . exact I1.fpOk (Nat.le_refl _) (I1.hok.fresh (Nat.le_refl _))
section
variable {X : Cx}
end
section
variable {σ : St} {H : Hp} {Q : VK}
end
section
variable {σ : St} {H : Hp} {Q : VK} {K : PySem.W.Frag} {v : V}
end
end L2
namespace L2
open PySem
section
variable {H : Hp} {Q : VK} {K : PySem.W.Frag}
theorem r_ixLx {z : Str} {i : Int} (hz : z.length <= 4000) (h0 : 0 <= i) (h1 : i < z.length) (h : ∀ c, z.cps.toList[i.toNat]? = some c -> Q (.str ⟨#[c]⟩) H) : rIxK K (.str z) (.int i) H Q := by
 obtain ⟨m, rfl⟩ := Int.eq_ofNat_of_zero_le h0
 have hi : m < z.cps.toList.length := by
  have : z.length = z.cps.toList.length := by show z.cps.size = _; simp
  omega
 exact r_ixSt (Nat.le_of_lt (smaller hz)) (atI_nat (List.getElem?_eq_getElem hi)) (h _ (List.getElem?_eq_getElem hi))
end
end L2
namespace L2
open PySem PySem.Spec PyProof.Rows PySem.W
theorem best_lt (num : Nat -> Int) : ∀ k, argBest (fun i j => decide (num i < num j)) k <= k /\ ∀ j, j <= k -> num (argBest (fun i j => decide (num i < num j)) k) <= num j
 | 0 => ⟨Nat.le_refl _, fun j hj => by have : j = 0 := by omega
                                       subst this; exact Int.le_refl _⟩
 | k + 1 => by
   obtain ⟨h1, h2⟩ := best_lt num k
   unfold argBest
   by_cases h : num (k + 1) < num (argBest (fun i j => decide (num i < num j)) k)
   . rw [if_pos (decide_eq_true h)]
     refine ⟨Nat.le_refl _, fun j hj => ?_⟩
     by_cases hk : j = k + 1
     . subst hk; exact Int.le_refl _
     . exact Int.le_trans (Int.le_of_lt h) (h2 j (by omega))
   . rw [if_neg (by simpa using h)]
     refine ⟨by omega, fun j hj => ?_⟩
     by_cases hk : j = k + 1
     . subst hk; omega
     . exact h2 j (by omega)
section
variable {X : Cx}
theorem vals_at {H1 : Hp} {kvs : List (Key × V)} {vs : List (Key × Value)} {m : List (Str × PyData)} {ns : List Int} {i : Nat} {k : Key} {v : Value} (hlen : vs.length = kvs.length) (kv : KV kvs vs) (dk : DKs H1 kvs m) (hmn : m.map (·.2) = ns.map PyData.int) (hv : vs[i]? = some (k, v)) : ∃ t, v = .int (ns.getD i 0) t := by
 have hnl : ns.length = kvs.length := by
  have := congrArg List.length hmn
  rw [List.length_map, List.length_map] at this
  rw [<- this]; exact dk.length.symm
 have hi : i < kvs.length := by rw [<- hlen]; exact (List.getElem?_eq_some_iff.mp hv).1
 obtain ⟨y, hy, hy2⟩ := paired_get kv (List.getElem?_eq_getElem hi)
 rw [hv] at hy
 cases hy
 obtain ⟨k', dd, hm', hkc, hdv⟩ := dk.getK (List.getElem?_eq_getElem hi)
 have hin : i < ns.length := by omega
 have hdd : dd = .int (ns.getD i 0) := by
  have e1 : (m.map (·.2))[i]? = some dd := by rw [List.getElem?_map, hm']; rfl
  rw [hmn, List.getElem?_map, List.getElem?_eq_getElem hin] at e1
  rw [List.getD_eq_getElem?_getD, List.getElem?_eq_getElem hin]
  exact (Option.some.inj e1).symm
 subst hdd
 have hq := hdv.int_inv
 have r2 := hy2.2
 rw [hq] at r2
 obtain ⟨t, ht⟩ := r2
 exact ⟨t, ht⟩
def rMinV : V -> Hp -> VK -> Prop := fun x H Q => ∃ (p : Addr) (m : List (Str × PyData)) (ns : List Int), x = .ref p /\ DAt H p m /\ m.map (·.2) = ns.map PyData.int /\ 0 < ns.length /\ ∀ k ∈ ns, (∀ j ∈ ns, k <= j) -> Q (.int k) H
def tMinV (te : TE) : TE := fun σ H Q => te σ H fun x H1 => rMinV x H1 Q
theorem pe_minV {e : Expr} {te : TE} {p pos apos cpos : Pos} (he : PE X e te) (hc : X.calm = true) (hg : Gl X "min") (hm : X.mg "min" = none)
 (hbase : attributeBase e "values" X.env (eval e X.env) = eval e X.env := by rfl) (hline : (apos.endLine == cpos.line) = true := by rfl)
 (h2 : starEach [.Call (.Attribute e "values" apos) [] [] cpos] X.env = (false, eval (.Call (.Attribute e "values" apos) [] [] cpos) X.env) :: starEach [] X.env := by rfl) :
 PE X (.Call (.Name "min" p) [.Call (.Attribute e "values" apos) [] [] cpos] [] pos) (tMinV te) := by
 intro pins s σ H Q I h
 refine wpAny_Call_Name_kw (ld_blt I hg hm boot_min ?_ (by decide) (by decide))
 refine PyProof.Rows.callWith_builtin1 ?_ h2 rfl
 rw [h2]
 show wpAny _ _ (spliced ((false, eval (.Call (.Attribute e "values" apos) [] [] cpos) X.env) :: backTo pos (starEach [] X.env))) _ _ s
 refine Calls.spliced_cons (wpAny_Call_method0_late hbase hline (thn (he pins s σ H _ I h) fun v s1 ⟨y, H1, I1, r1, q1⟩ => ?_))
 obtain ⟨d, m, ns, rfl, ⟨kvs, hd, dk⟩, hmn, hpos, q⟩ := q1
 obtain ⟨h1, h2⟩ := tyV_is I1 (T := "dict") r1 (.inr (.inr (.inl ⟨rfl, .inl ⟨kvs, hd⟩⟩)))
 cases r1
 refine ⟨"dict", "dict.values", PySem.F.plainAttrs_dict, PySem.F.slot_dict_values, PySem.F.type_dict_values, h1, h2, Calls.callWith_builtin rfl (PySem.evalArgs_none ?_)⟩
 obtain ⟨_, hs, vs, kv, o, es, ep, ho, a2, a3, a4⟩ := (show ObjOk X.prog X.w H1 s1.heap d (.dK kvs) from I1.hok d _ hd)
 have da : s1.heap.DictAt (mixKind X.prog X.w) d vs ep := ⟨o, es, ho, a2, a3, a4⟩
 have hlt : d < s1.heap.objs.size := Heap.lt_size ho
 have hlen : vs.length = kvs.length := kv.length.symm
 refine call_meetsIn PySem.F.slot_dict_values da.dictOf.typeIs PySem.F.entry_dict_values (PySem.F.args_dict_values_1 _) (meets_dict_values (mixKind X.prog X.w) d hs) ⟨⟨vs, da.dictOf⟩, ?_⟩
 refine Calls.spliced_nil ?_
 have hsz : (s1.heap.push { cls := .type "dict_values", data := .fields #[.ref d] }).objs.size = s1.heap.objs.size + 1 := Heap.size_push ..
 have hA : X.A.in1.handled = none := I1.ok.hd hc
 have hnl : ns.length = kvs.length := by
  have := congrArg List.length hmn
  rw [List.length_map, List.length_map] at this
  rw [<- this]; exact dk.length.symm
 refine call_min_walk (wpAny_pyIter_values (v := s1.heap.objs.size) ⟨_, Heap.get?_push_size _ rfl, rfl, rfl⟩ (da.push _) ?_)
 refine ⟨_, _, _, _, _, _, fun i j => decide (ns.getD i 0 < ns.getD j 0), rfl, Walks.dictValues (knd := mixKind X.prog X.w) hA _ d (Nat.ne_of_lt (by rw [hsz]; exact Nat.lt_succ_of_lt hlt)) vs ep, ⟨⟨_, Heap.get?_push_size _ rfl, rfl, rfl⟩, (da.push _).push _⟩, ?_, by omega, CmpOf.ints_lt (fun i => ns.getD i 0) ?_, ?_⟩
 . intro b hb
   rw [Heap.size_push]
   have : b = (s1.heap.push { cls := .type "dict_values", data := .fields #[.ref d] }).objs.size \/ b = d := by simpa using hb
   rcases this with rfl | rfl
   . exact Nat.lt_succ_self _
   . rw [hsz]; exact Nat.lt_succ_of_lt (Nat.lt_succ_of_lt hlt)
 . rintro i v ⟨k, hv⟩
   exact vals_at hlen kv dk hmn hv
 . rintro v h' tk ⟨k, hv⟩ hk
   have b := best_lt (fun i => ns.getD i 0) (vs.length - 1)
   generalize argBest (fun i j => decide (ns.getD i 0 < ns.getD j 0)) (vs.length - 1) = ix at b hv
   obtain ⟨b1, b2⟩ := b
   obtain ⟨t, rfl⟩ := vals_at hlen kv dk hmn hv
   have I2 : Inv X pins σ H1 { s1 with heap := s1.heap.push { cls := .type "dict_values", data := .fields #[.ref d] } } := I1.kept (t' := s1.toks) fun b o e => Heap.get?_push_of_some _ e
   have fp := I2.fpOk (H' := H1) (Nat.le_refl _) (I2.hok.fresh (Nat.le_refl _))
   have I3 := I2.turned (t' := tk) (h' := h') (it := (s1.heap.push { cls := .type "dict_values", data := .fields #[.ref d] }).objs.size) (fun b o hb e => hk b o (by simpa using hb) (Heap.get?_push_of_some _ e)) fp.1 fp.2.1 fp.2.2.2.1 fp.2.2.2.2.1 fp.2.2.2.2.2
   have hb : ix < ns.length := by omega
   refine ⟨.int _, H1, I3, ⟨t, rfl⟩, q _ ?_ ?_⟩
   . rw [List.getD_eq_getElem?_getD, List.getElem?_eq_getElem hb]; exact List.getElem_mem hb
   . intro k hk
     obtain ⟨j, hj, rfl⟩ := List.getElem_of_mem hk
     have := b2 j (by omega)
     rwa [List.getD_eq_getElem?_getD (i := j), List.getElem?_eq_getElem hj] at this
end
section
variable {σ : St} {H : Hp} {Q : VK}
theorem r_minVT {te : TE} (h : te σ H fun x H1 => rMinV x H1 Q) : tMinV te σ H Q := h
theorem r_minV {p : Addr} {m : List (Str × PyData)} {ns : List Int} (hp : DAt H p m) (hm : m.map (·.2) = ns.map PyData.int) (hl : 0 < ns.length) (h : ∀ k ∈ ns, (∀ j ∈ ns, k <= j) -> Q (.int k) H) : rMinV (.ref p) H Q := ⟨p, m, ns, rfl, hp, hm, hl, h⟩
end
def pairD (k : Int × Str) : PyData := .tuple [.int k.1, .str k.2]
def kfH (H : Hp) : V -> Int × Str
 | .ref a => match H a with
   | some (.tup [.int i, .str x]) => (i, x)
   | _ => (0, Str.empty)
 | _ => (0, Str.empty)
theorem kfH_of {H : Hp} {v : V} {k : Int × Str} (h : Dv H v (pairD k)) : kfH H v = k := by
 unfold pairD at h
 cases h with
 | tup ha r =>
   cases r with
   | cons h1 r =>
     cases r with
     | cons h2 r =>
       cases r
       cases h1; cases h2
       simp only [kfH, ha]
theorem kfH_all {H : Hp} : ∀ {xs : List V} {ks : List (Int × Str)}, Dvs H xs (ks.map pairD) -> Dvs H xs (xs.map fun v => .tuple [.int (kfH H v).1, .str (kfH H v).2])
 | _, [], .nil => .nil
 | _, _ :: _, .cons h r => .cons (by show Dv H _ (.tuple [.int (kfH H _).1, .str (kfH H _).2]); rw [kfH_of h]; exact h) (kfH_all r)
section
variable {X : Cx} {pins : List (Addr × Obj)} {σ : St} {H : Hp} {s : Shared}
theorem sorted_pairs {l : Addr} {xs : List V} {kf : V -> Int × Str} {Q : VK} {E : Value -> Shared -> Prop} (I : Inv X pins σ H s) (hl : SqL X.K H l xs) (h64 : xs.length < 64) (dv : Dvs H xs (xs.map fun v => .tuple [.int (kf v).1, .str (kf v).2])) (fin : SortFin X pins σ H ltIS kf xs Q) :
 wpAny (model X.prog X.w) X.A (call (.builtin "sorted") [.ref l]) (EP X pins σ Q) E s := by
 have hsl : (64 : Nat) <= sizeLine := by decide
 obtain ⟨vs, rv, p, hz⟩ := I.list hl
 have lx := rv.length
 refine Calls.call_function_entry kind_sorted plain_sorted entry_sorted (args_sorted1 _) ?_
 unfold Builtin.«sorted»
 refine wpAny_bind (m := checkCount "sorted" 1 1 _) (wpAny_pure ?_)
 refine wpAny_bind (collect_list p.isList ?_ (by omega))
 refine wpAny_bind (wpAny_newList ?_ (by omega))
 have fp0 : FpOk X pins H s.heap.objs.size := I.fpOk (Nat.le_refl _) (I.hok.fresh (Nat.le_refl _))
 have I2 : Inv X pins σ H { s with heap := (s.heap.push (seqObj "list" #[] 0)).update s.heap.objs.size (Obj.mapSeq (· ++ vs.toArray)) } := (I.push1 (o := seqObj "list" #[] 0)).upd1 fp0
 have hsz : ((s.heap.push (seqObj "list" #[] 0)).update s.heap.objs.size (Obj.mapSeq (· ++ vs.toArray))).objs.size = s.heap.objs.size + 1 := by rw [Heap.size_update, size_push']
 generalize hG : (s.heap.push (seqObj "list" #[] 0)).update s.heap.objs.size (Obj.mapSeq (· ++ vs.toArray)) = h2 at I2 hsz ⊢
 have hoL : (h2.push (seqObj "list" vs.toArray 0)).get? h2.objs.size = some (seqObj "list" vs.toArray 0) := Heap.get?_push_size _ rfl
 have I3 : Inv X pins σ H { s with heap := h2.push (seqObj "list" vs.toArray 0) } := I2.push1
 have fa : FpOk X pins H h2.objs.size := I2.fpOk (Nat.le_refl _) (I2.hok.fresh (Nat.le_refl _))
 have hn0 : X.s₀.heap.objs.size <= h2.objs.size := I2.sz
 show wpAny _ _ _ _ _ { s with heap := h2.push (seqObj "list" vs.toArray 0) }
 generalize h2.objs.size = a at *
 refine wpAny_bind (wpAny_holding (wpAny_call_entry slot_list_sort ⟨_, hoL, rfl⟩ entry_list_sort ?body (args_list_sort _)))
 case body =>
  show wpAny (model X.prog X.w) X.A.in1.in1 (Builtin.«list.sort» ⟨[.ref a], []⟩) _ _ _
  rw [list_sort_plain]
  generalize h2.push (seqObj "list" vs.toArray 0) = h3 at *
  refine wpAny_bind (listItems_at hoL rfl ?_)
  refine wpAny_bind (listUpdate_at hoL rfl ?_ (by rw [List.size_toArray]; omega) (Nat.zero_le _))
  have I4 : Inv X pins σ H { s with heap := h3.update a (Obj.mapSeq fun _ => (#[] : Array Value)) } := I3.upd1 fa
  obtain ⟨e1, oa⟩ : ∃ e1, (h3.update a (Obj.mapSeq fun _ => (#[] : Array Value))).get? a = some (seqObj "list" #[] e1) := ⟨_, get?_update_seq hoL fun _ => #[]⟩
  generalize h3.update a (Obj.mapSeq fun _ => (#[] : Array Value)) = h4 at *
  refine wpAny_bind (seqEpoch_at oa rfl ?_)
  refine wpAny_bind (wpAny_newTuple ?_ (by show vs.length <= _; omega))
  have I5 : Inv X pins σ H { s with heap := h4.push (seqObj "tuple" vs.toArray 0) } := I4.push1
  have oa5 : (h4.push (seqObj "tuple" vs.toArray 0)).get? a = some (seqObj "list" #[] e1) := Heap.get?_push_of_some _ oa
  show wpAny _ _ _ _ _ { s with heap := h4.push (seqObj "tuple" vs.toArray 0) }
  generalize h4.push (seqObj "tuple" vs.toArray 0) = h5 at *
  refine wpAny_bind (wpAny_newList ?_ (Nat.zero_le _))
  have I6 : Inv X pins σ H { s with heap := h5.push (seqObj "list" #[] 0) } := I5.push1
  have oa6 : (h5.push (seqObj "list" #[] 0)).get? a = some (seqObj "list" #[] e1) := Heap.get?_push_of_some _ oa5
  refine wpAny_holding ?_
  show wpAny _ _ _ _ _ { s with heap := h5.push (seqObj "list" #[] 0) }
  generalize h5.push (seqObj "list" #[] 0) = h6 at *
  dsimp only
  by_cases hlt : vs.toArray.size < 2
  . rw [if_pos hlt, if_pos hlt]
    refine wpAny_bind (wpAny_pure ?_)
    rw [StateT.run_pure]
    refine wpAny_bind (wpAny_pure ?_)
    dsimp only
    have hout : (arrOf (SortSt.mk' general' (vs.toArray.zip vs.toArray) #[] 7 none)).map (·.2) = List.toArray vs := by
     show (vs.toArray.zip vs.toArray).map (·.2) = List.toArray vs
     apply Array.toList_inj.mp
     simp [List.map_snd_zip]
    rw [hout]
    refine wpAny_bind (seqEpoch_at oa6 rfl ?_)
    refine wpAny_bind (listUpdate_at oa6 rfl ?_ (Nat.zero_le _) (by show (List.toArray vs).size <= _; rw [List.size_toArray]; omega))
    simp only [bne_self_eq_false, Bool.false_eq_true, if_false]
    have I7 := (I6.upd1 (f := Obj.mapSeq fun _ => List.toArray vs) fa).track fa hn0 (by rw [rv.length]; omega) rv (get?_update_seq oa6 fun _ => List.toArray vs)
    refine wpAny_pure ⟨_, rfl, wpAny_pure ⟨_, rfl, .ref a, _, I7, rfl, fin a xs H (Same.refl _) fa.1 fa.1 ⟨List.Perm.refl _, ?_⟩⟩⟩
    rw [List.size_toArray] at hlt
    match xs, lx with
    | [], _ => exact .nil
    | [_], _ => exact List.pairwise_singleton _ _
    | _ :: _ :: _, lx => simp at lx; omega
  . rw [if_neg hlt, if_neg hlt]
    rw [List.size_toArray] at hlt
    obtain ⟨fs, k1, k2, k3⟩ := kinds_pair I6 rv dv
    refine wpAny_bind (kat_kind k1 (by omega) k3 (by decide) ?_)
    refine wpAny_bind (wpAny_mono (kat_run (Q := fun st' s2 => s2 = { s with heap := h6 } /\ ∃ p : Array Nat, Ix xs.length p /\ arrOf st' = p.map (kas_item ((List.toArray vs).zip (List.toArray vs))) /\ failedOf st' = none /\ Up (fun i j => ltIS (kf (xs.getD i .non)) (kf (xs.getD j .non))) p xs.length)
     (G := fun p s2 => s2 = { s with heap := h6 } /\ Ix xs.length p /\ Up (fun i j => ltIS (kf (xs.getD i .non)) (kf (xs.getD j .non))) p xs.length) rfl (by omega) (by omega) (fun p st' s2 a1 a2 a3 ⟨a4, a5, a6⟩ => ⟨a4, p, a5, a2, a3, a6⟩) ?_) ?_ fun _ _ z => z)
    . rw [show vs.length = xs.length by omega]
      refine sort_ok (lt := fun i j => ltIS (kf (xs.getD i .non)) (kf (xs.getD j .non))) (S := fun z => z = { s with heap := h6 }) ⟨fun _ => ltIS_irr _, fun _ _ => ltIS_asy, fun _ _ _ => ltIS_ntr⟩ (asks_pair I6 rv dv) (by omega) (fun p s2 hs hp hu => ⟨hs, hp, hu⟩) _ rfl
    . rintro ⟨⟨⟩, st'⟩ s2 ⟨rfl, p, hp, har, hf, hu⟩
      dsimp only
      rw [kat_snds rfl har]
      have ho : (p.toList.map fun i => vs.getD i Value.none).length < 64 := by simp [hp.sz]; omega
      refine wpAny_bind (seqEpoch_at oa6 rfl ?_)
      refine wpAny_bind (listUpdate_at oa6 rfl ?_ (Nat.zero_le _) (by show (List.toArray (p.toList.map fun i => vs.getD i Value.none)).size <= _; rw [List.size_toArray]; omega))
      rw [hf]
      simp only [bne_self_eq_false, Bool.false_eq_true, if_false]
      have rv2 := vals_mapD rv p.toList
      have I7 := (I6.upd1 (f := Obj.mapSeq fun _ => List.toArray (p.toList.map fun i => vs.getD i Value.none)) fa).track fa hn0 (by rw [rv2.length]; omega) rv2 (get?_update_seq oa6 fun _ => List.toArray (p.toList.map fun i => vs.getD i Value.none))
      exact wpAny_pure ⟨_, rfl, wpAny_pure ⟨_, rfl, .ref a, _, I7, rfl, fin a _ H (Same.refl _) fa.1 fa.1 (order_of hp hu)⟩⟩
def rSortP : List V -> Hp -> VK -> Prop := fun xs H Q => ∃ (v : V) (ks : List (Int × Str)), xs = [v] /\ Dv H v (.list (ks.map pairD)) /\ ks.length < 64 /\ ∀ q H' (ks' : List (Int × Str)), Same H H' -> H q = none -> ks'.Perm ks -> ks'.Pairwise (fun c d => ltIS d c = false) -> LAt H' q (ks'.map pairD) -> Q (.ref q) H'
theorem call_sortP : CallR X (.builtin "sorted") rSortP := by
 intro pins s σ H xs us Q I r h
 obtain ⟨v, ks, rfl, hd, hl, q⟩ := h
 obtain ⟨u, rfl, ru⟩ := vals1 r
 obtain ⟨p, ys, rfl, e, dv⟩ := hd.lst_inv
 cases ru
 refine sorted_pairs I (e X.K) (by rw [dv.length, List.length_map]; exact hl) (kfH_all dv) fun a zs H' sm hn hn' ord => ?_
 obtain ⟨pm, pw⟩ := ord
 obtain ⟨ks', pc, dv'⟩ := dv.perm pm
 have sm2 : Same H (upd H' a (.lst zs)) := sm.trans (same_upd hn')
 exact q a _ ks' sm2 hn pc (Dvs.pairwise (R := fun a b => ltIS b a = false) (key := fun k => k) (fun v c hv => kfH_of hv) dv' pw) ⟨zs, upd_same, dv'.keeps sm2, immAll_map (fun _ => rfl) _⟩
end
section
variable {σ : St} {H : Hp} {Q : VK}
theorem r_sortP {v : V} {ks : List (Int × Str)} (hp : Dv H v (.list (ks.map pairD))) (hl : ks.length < 64) (h : ∀ q H' (ks' : List (Int × Str)), Same H H' -> H q = none -> ks'.Perm ks -> ks'.Pairwise (fun c d => ltIS d c = false) -> LAt H' q (ks'.map pairD) -> Q (.ref q) H') : rSortP [v] H Q := ⟨v, ks, rfl, hp, hl, h⟩
end
section
variable {σ : St} {H : Hp} {Q : VK} {K : PySem.W.Frag} {p : Addr} {m : List (Str × PyData)} {k : Str}
theorem r_lcI {n : Nat} {tl : TE} {g : TG} {tc : TT} {te : TE} (hp : DAt H p m) (htl : ∀ R : V -> Hp -> Prop, R (.ref p) H -> tl σ H R) (pf : Str × PyData -> Bool) (fd : Str × PyData -> PyData) (hlen : m.length <= 4000) (hi : ∀ c, Imm (fd c) = true)
 (turn : ∀ x c Hf H' (N : Option V -> Hp -> Prop), c ∈ m -> Mv [p] H Hf -> DRd Hf p m -> Same Hf H' -> Dv H' x (.tuple [.str c.1, c.2]) -> (pf c = true -> ∀ y H4, Same H' H4 -> Dv H4 y (fd c) -> N (some y) H4) -> (pf c = false -> ∀ H3, Same H' H3 -> N none H3) ->
  g x (List.replicate n none ++ σ) H' fun σ2 H2 => tc σ2 H2 fun b H3 => LCT te N σ2 b H3)
 (kk : ∀ q H', Same H H' -> H q = none -> LAt H' q ((m.filter pf).map fd) -> Q (.ref q) H') : tThaw (tLC n (iItems tl) g tc te) σ H Q := by
 obtain ⟨kvs, e, dk⟩ := hp
 refine ⟨p, kvs, e, htl _ ⟨p, kvs, rfl, e, fun o => ?_⟩⟩
 have mv : Mv [p] H (upd H p (.frz o (.dK kvs))) := .of_upd e (by intro _ z; cases z)
 have rd : DRd (upd H p (.frz o (.dK kvs))) p m := ⟨kvs, .inr ⟨o, upd_same⟩, dk.imm mv.tp⟩
 have hl : kvs.length = m.length := dk.length
 refine ⟨fun i j acc H' => i <= m.length /\ j = m.length - i /\ Same (upd H p (.frz o (.dK kvs))) H' /\ Dvs H' acc (((m.take i).filter pf).map fd), ⟨m.length, Nat.zero_le _, rfl, Same.refl _, by simpa using Dvs.nil⟩, ?_⟩
 rintro i j acc H' ⟨hi1, rfl, sm, hacc⟩
 have hfz : H' p = some (.frz o (.dK kvs)) := sm _ _ upd_same
 have hal : acc.length <= m.length := by
  rw [hacc.length, List.length_map]
  refine Nat.le_trans (List.length_filter_le _ _) ?_
  rw [List.length_take]
  omega
 by_cases hc : i = m.length
 . left
   refine ⟨⟨by omega, hfz⟩, fun q hq => ?_⟩
   have hpq : p ≠ q := ne_of_none hfz hq
   have tk : m.take i = m := List.take_of_length_le (by omega)
   rw [tk] at hacc
   have ups : upd (upd H' q (.lst acc)) p (.dK kvs) q = some (.lst acc) := by rw [upd_ne (Ne.symm hpq), upd_same]
   refine ⟨⟨o, by rw [upd_ne hpq]; exact hfz⟩, kk q _ (fun a u z => ?_) ?_ ⟨acc, ups, hacc.imm (fun a xs z => ?_) (immAll_map hi _), immAll_map hi _⟩⟩
   . by_cases ha : a = p
     . subst ha; rw [e] at z; cases z; exact upd_same
     . have z1 : H' a = some u := sm _ _ (by rw [upd_ne ha]; exact z)
       rw [upd_ne ha, upd_ne (ne_of_none z1 hq)]; exact z1
   . cases hz : H q with
     | none => rfl
     | some u =>
       have : H' q = some u := sm _ _ (by rw [upd_ne (Ne.symm hpq)]; exact hz)
       rw [hq] at this; cases this
   . rw [upd_ne (ne_of z hfz (by intro y; cases y)), upd_ne (ne_of_none z hq)]; exact z
 . right
   have hlt : i < m.length := by omega
   refine ⟨⟨by omega, hfz⟩, smaller (by omega), fun x H2 hy => ?_⟩
   obtain ⟨t, kv, hkv, rfl, ht, rfl⟩ := hy
   obtain ⟨c, d, hm, hkc, hdv⟩ := dk.getK hkv
   have htk : m.take (i + 1) = m.take i ++ [(c, d)] := by rw [List.take_add_one, hm]; rfl
   have smt : Same H' (upd H' t (.tup [kV kv.1, kv.2])) := same_upd ht
   have hdv2 : Dv H' kv.2 d := ((dk.imm mv.tp).imm (fun a xs z => sm a _ z)).getK hkv |> fun ⟨c', d', hm', _, h'⟩ => by
    rw [hm] at hm'; cases hm'; exact h'
   have hx : Dv (upd H' t (.tup [kV kv.1, kv.2])) (.ref t) (.tuple [.str c, d]) := by
    have e1 : kV kv.1 = .str c := by rw [hkc]; rfl
    rw [e1] at smt ⊢
    exact .tup upd_same (.cons (.str _) (.cons (hdv2.keeps smt) .nil))
   have sm2 := sm.trans smt
   refine turn (.ref t) (c, d) _ _ (fun r H4 => match r with | some y => ∃ j', j' < m.length - i /\ i + 1 <= m.length /\ j' = m.length - (i + 1) /\ Same (upd H p (.frz o (.dK kvs))) H4 /\ Dvs H4 (acc ++ [y]) (((m.take (i + 1)).filter pf).map fd) | none => ∃ j', j' < m.length - i /\ i + 1 <= m.length /\ j' = m.length - (i + 1) /\ Same (upd H p (.frz o (.dK kvs))) H4 /\ Dvs H4 acc (((m.take (i + 1)).filter pf).map fd))
    (List.mem_of_getElem? hm) mv rd sm2 hx (fun hb y H4 s4 d4 => ⟨m.length - (i + 1), by omega, hlt, rfl, sm2.trans s4, ?_⟩) (fun hb H3 s3 => ⟨m.length - (i + 1), by omega, hlt, rfl, sm2.trans s3, ?_⟩)
   . rw [htk, List.filter_append, List.map_append]
     simp only [List.filter_cons, hb, if_true, List.filter_nil, List.map_cons, List.map_nil]
     exact Dvs.append (hacc.keeps (smt.trans s4)) (.cons d4 .nil)
   . rw [htk, List.filter_append, List.map_append]
     simp only [List.filter_cons, hb, Bool.false_eq_true, if_false, List.filter_nil, List.map_nil, List.append_nil]
     exact hacc.keeps (smt.trans s3)
theorem r_truDD {R : Bool -> Prop} (hp : DAt H p m) (h : R (!m.isEmpty)) : ∃ b, TruV K (.ref p) H b /\ R b := by
 obtain ⟨kvs, e, dk⟩ := hp
 refine ⟨_, .inr (.inr ⟨kvs, e, rfl⟩), ?_⟩
 have : kvs.isEmpty = m.isEmpty := by
  have := dk.length
  cases kvs <;> cases m <;> simp_all
 rw [this]; exact h
end
def TrD (h : Heap) (a T : Addr) (c : Value) (od : Option Addr) : Prop := ∃ oe vs oT ts, h.get? a = some oe /\ oe.cls = c /\ oe.dict = od /\ oe.data = .fields vs /\ vs[1]? = some (.ref T) /\ T ≠ a /\ h.get? T = some oT /\ oT.data = .fields ts /\ ts[3]? = some .none /\ vs[2]? = some .none
section
variable {M : Model} {A : Around} {E : Value -> Shared -> Prop} {s : Shared} {env : Env} {outer : List Env} {L a T : Addr} {c : Value} {od : Option Addr} {base : Heap} {Q : Unit -> Shared -> Prop}
theorem entryD_ok {oe : Obj} {vs : Array Value} {head : Value} {had : Bool} (hfr : A.frames = some (env :: outer)) (hl : s.heap.FunFrames base (env :: outer)) (hf : env.frame = some L) (he : s.heap.get? a = some oe) (hdn : oe.dict = od) (hd : oe.data = .fields vs) (hsz : 1 < vs.size) (hv2 : vs[2]? = some .none)
 (h : ∀ h' T', TrD h' a T' oe.cls od -> s.heap.get? T' = none -> Lv (env :: outer) [a] s.heap h' -> Q () { s with heap := h' }) :
 wpAny M A (do let x <- frameOf env; let pl <- entryPlaceOf L had; let b <- EntryCells.newEntry head x .none (rawInt L) .none pl; setField (.ref a) 1 b) (fun _ s' => wpAny M A (setFlight (.ref a) none) Q E s') E s := by
 have hae : a ∉ frs (env :: outer) := fun m => by
  obtain ⟨_, o, ho, hn⟩ := hl.mem m
  rw [he] at ho
  cases ho
  exact hn vs hd
 refine wpAny_bind (wpAny_frameOf_fun hfr hl hf fun h1 s1 => ?_)
 refine wpAny_bind (wpAny_entryPlaceOf fun pl hpl => ?_)
 unfold EntryCells.newEntry newFields
 refine wpAny_bind (wpAny_newObj_type ?_ (hpl.sizeOk5 _ _ _ _ _))
 have e1 : h1.get? a = some oe := (s1.2.1 a hae).trans he
 let tb : Obj := { cls := .type "traceback", dict := none, data := .fields ([head, .ref L, .none, rawInt L, .none] ++ (if pl.isEmpty then List.replicate 6 Value.none else pl)).toArray }
 have e2 : (h1.push tb).get? a = some oe := Heap.get?_push_of_some _ e1
 refine wpAny_setField e2 hd hsz ?_
 have hTa : h1.objs.size ≠ a := Ne.symm (Nat.ne_of_lt (Heap.lt_size e1))
 have d3 := Obj.data_mapFields hd (·.setIfInBounds 1 (Value.ref h1.objs.size))
 have e3 := Heap.get?_update_self (Obj.mapFields (·.setIfInBounds 1 (Value.ref h1.objs.size))) e2 (Obj.isFreed_of_fields d3)
 have t3 : ((h1.push tb).update a (Obj.mapFields (·.setIfInBounds 1 (Value.ref h1.objs.size)))).get? h1.objs.size = some tb := (Heap.get?_update_other _ _ (Ne.symm hTa)).trans (Heap.get?_push_size h1 rfl)
 unfold setFlight
 refine wpAny_bind (wpAny_field e3 d3 (x := .ref h1.objs.size) (by simp [hsz]) ?_)
 rw [if_pos (show (Value.ref h1.objs.size != Value.none) = true from by simp)]
 refine wpAny_setField t3 rfl (by simp only [List.size_toArray, List.length_append, List.length_cons, List.length_nil] <;> omega) (h _ h1.objs.size ?_ ?_ ?_)
 . refine ⟨_, _, _, _, (Heap.get?_update_other _ _ hTa).trans e3, Obj.cls_mapFields _ _, ?_, d3, by simp [hsz], hTa, Heap.get?_update_self _ t3 (Obj.isFreed_of_fields (Obj.data_mapFields rfl _)), Obj.data_mapFields rfl _, by first | (simp; done) | (rcases hpl with rfl | ⟨_, _, _, _, _, _, _, rfl⟩ <;> simp), by rw [Array.getElem?_setIfInBounds_ne (by decide)]; exact hv2⟩
   obtain ⟨c0, d0, dt0, sl0⟩ := oe
   cases dt0 <;> first | exact hdn | (cases hd)
 . cases q : s.heap.get? h1.objs.size with
   | none => rfl
   | some o =>
     obtain ⟨sl, z⟩ := s1.2.2 _ o q
     exact absurd (Heap.lt_size z) (Nat.lt_irrefl _)
 . have kp : ∀ b o, b ≠ a -> h1.get? b = some o -> (((h1.push tb).update a (Obj.mapFields (·.setIfInBounds 1 (Value.ref h1.objs.size)))).update h1.objs.size (Obj.mapFields (·.setIfInBounds 3 ((none : Option Addr).elim Value.none fun f => rawInt f)))).get? b = some o := fun b o hb q => by
    rw [Heap.get?_update_other _ _ (Ne.symm (Nat.ne_of_lt (Heap.lt_size q))), Heap.get?_update_other _ _ (Ne.symm hb)]
    exact Heap.get?_push_of_some _ q
   refine ⟨fun b o n1 n2 q => kp b o (by simpa using n2) ((s1.2.1 b n1).trans q), fun b o m q => ?_⟩
   obtain ⟨sl, z⟩ := s1.2.2 b o q
   exact ⟨sl, kp b _ (fun z => hae (z ▸ m)) z⟩
theorem noteD_first {oe : Obj} {vs : Array Value} (hfr : A.frames = some (env :: outer)) (hl : s.heap.FunFrames base (env :: outer)) (hf : env.frame = some L) (he : s.heap.get? a = some oe) (hdn : oe.dict = od) (hd : oe.data = .fields vs) (h1 : vs[1]? = some .none) (hv2 : vs[2]? = some .none)
 (h : ∀ h' T', TrD h' a T' oe.cls od -> s.heap.get? T' = none -> Lv (env :: outer) [a] s.heap h' -> Q () { s with heap := h' }) : wpAny M A (noteFrame (.ref a) env) (fun _ s' => wpAny M A (setFlight (.ref a) none) Q E s') E s := by
 unfold noteFrame
 simp only [hf]
 refine wpAny_bind (wpAny_field he hd h1 ?_)
 rw [if_neg (by decide)]
 exact entryD_ok hfr hl hf he hdn hd (Array.getElem?_eq_some_iff.mp h1).1 hv2 h
theorem noteD_next (hfr : A.frames = some (env :: outer)) (hl : s.heap.FunFrames base (env :: outer)) (hf : env.frame = some L) (ht : TrD s.heap a T c od)
 (h : ∀ h' T', TrD h' a T' c od -> (T' = T \/ s.heap.get? T' = none) -> Lv (env :: outer) [a, T] s.heap h' -> Q () { s with heap := h' }) : wpAny M A (noteFrame (.ref a) env) (fun _ s' => wpAny M A (setFlight (.ref a) none) Q E s') E s := by
 obtain ⟨oe, vs, oT, ts, e1, rfl, e3, e4, e5, e6, e7, e8, e9, e10⟩ := ht
 unfold noteFrame
 simp only [hf]
 refine wpAny_bind (wpAny_field e1 e4 e5 ?_)
 rw [if_pos (show (Value.ref T != Value.none) = true from by simp)]
 refine wpAny_bind (wpAny_field e7 e8 e9 ?_)
 rw [if_neg (show ¬ ((Value.none == rawInt L) = true) from by simp [rawInt])]
 refine wpAny_bind (wpAny_setField e7 e8 (Array.getElem?_eq_some_iff.mp e9).1 ?_)
 have oth : ∀ b, b ≠ T -> (s.heap.update T (Obj.mapFields (·.setIfInBounds 3 Value.none))).get? b = s.heap.get? b := fun b hb => Heap.get?_update_other _ _ (Ne.symm hb)
 have nT : ∀ b o, s.heap.get? b = some o -> (∀ vs, o.data ≠ .fields vs) -> b ≠ T := fun b o hb hn z => by
  rw [z, e7] at hb
  cases hb
  exact hn ts e8
 refine entryD_ok (s := { s with heap := s.heap.update T (Obj.mapFields (·.setIfInBounds 3 Value.none)) }) hfr (hl.of_keeps fun b o hb hn => ⟨o, (oth b (nT b o hb hn)).trans hb, rfl⟩) hf ((oth a (Ne.symm e6)).trans e1) e3 e4 (Array.getElem?_eq_some_iff.mp e5).1 e10 fun h' T' t1 t2 lv => h h' T' t1 ?_ ⟨fun b o n1 n2 q => ?_, fun b o m q => ?_⟩
 . by_cases z : T' = T
   . exact .inl z
   . exact .inr ((oth T' z).symm.trans t2)
 . have : b ≠ a /\ b ≠ T := by simpa using n2
   exact lv.keep b o n1 (by simpa using this.1) ((oth b this.2).trans q)
 . obtain ⟨_, o', q', hn⟩ := hl.mem m
   rw [q] at q'
   cases q'
   exact lv.slot b o m ((oth b (nT b o q hn)).trans q)
end
def CXD (P : Program) (w : World) : CXT := fun outer H s E e s' => ∃ a T C od H', e = .ref a /\ s'.os = s.os /\ AllBare s'.gens /\ Un (frs outer) [] H H' s.heap s'.heap /\ HOk P w H' s'.heap /\ TrD s'.heap a T (.ref C) od /\ s.heap.get? a = none /\ s.heap.get? T = none /\ H' a = none /\ H' T = none /\ E (.ref C) od H'
section
variable {P : Program} {w : World} {K : PySem.W.Frag} {mg : Str -> Option Value} {base : Heap} {N : List Str} {qual : Str} {scope : Scope} {f : Addr} {cd : Value} {A : Around} {outer : List Env} {s0 : Shared} {H0 : Hp} {E : XK} {CX : CXT} {pins : List (Addr × Obj)} {σ : St} {H : Hp} {s : Shared}
theorem cxd_left {a T C : Addr} {od : Option Addr} {S : List Addr} {h' : Heap} (I : Inv (cxOf CX P w K mg base N qual scope f cd A outer s0 H0 E) pins σ H s) (lv : Lv (cxOf CX P w K mg base N qual scope f cd A outer s0 H0 E).stack S s.heap h') (hS : ∀ b ∈ S, H b = none /\ s0.heap.get? b = none)
 (tr : TrD h' a T (.ref C) od) (ha : H a = none) (hT : H T = none) (na : s0.heap.get? a = none) (nT : s0.heap.get? T = none) (hE : E (.ref C) od H) : CXD P w outer H0 s0 E (.ref a) { s with heap := h' } := by
 have eL : frs (cxOf CX P w K mg base N qual scope f cd A outer s0 H0 E).stack = s0.heap.objs.size :: frs outer := rfl
 have old : ∀ b o, s0.heap.get? b = some o -> b ∉ S /\ b ≠ s0.heap.objs.size := fun b o e => ⟨fun z => (by rw [(hS b z).2] at e; cases e), Nat.ne_of_lt (Heap.lt_size e)⟩
 refine ⟨a, T, C, od, H, rfl, I.os, I.bare, ⟨fun b o e n hb hx => ?_, fun b o e n hb hx => ?_, fun b o e n hx => I.base.free b o e n hx, fun b o e hx => ?_, I.base.tups, I.base.frzs, I.base.tbls⟩, fun b u e => ?_, tr, na, nT, ha, hT, hE⟩
 . have z := I.base.keep b o e n hb hx
   exact lv.keep b o (by rw [eL]; simp [(old b o e).2, hb]) (old b o e).1 z
 . obtain ⟨sl, z⟩ := I.base.slot b o e n hb hx
   obtain ⟨sl2, z2⟩ := lv.slot b _ (by rw [eL]; exact List.mem_cons_of_mem _ hb) z
   exact ⟨sl2, z2⟩
 . obtain ⟨o2, z⟩ := I.base.there b o e hx
   by_cases m : b ∈ frs (cxOf CX P w K mg base N qual scope f cd A outer s0 H0 E).stack
   . obtain ⟨sl2, z2⟩ := lv.slot b _ m z
     exact ⟨_, z2⟩
   . exact ⟨_, lv.keep b o2 m (old b o e).1 z⟩
 . refine (I.hok b u e).stay (fun c v hc q => ?_) (fun _ q => q) fun _ _ q => q
   have hc' : H c ≠ none := by
    rcases hc with rfl | hc
    . rw [e]; intro z; cases z
    . rw [hc]; intro z; cases z
   exact lv.keep c v (fun m => hc' (I.stkFree c m)) (fun m => hc' (hS c m).1) q
def PassesS (CX : CXT) (X : Cx) (E : St -> XK) : Prop := ∀ (pins : List (Addr × Obj)) (σ : St) (H : Hp) (s : Shared) (e : Value) (s' : Shared), Inv X pins σ H s -> CX X.stack H s (E σ) e s' -> X.xe e s'
theorem passD : PassesS (CXD P w) (cxOf (CXD P w) P w K mg base N qual scope f cd A outer s0 H0 E) (fun _ => E) := by
 intro pins σ H s e s' I ⟨a, T, C, od, H', he, os, bare, un, hok, tr, na, nT, ha, hT, hE⟩
 subst he
 have I' := I.call' (ch := []) os un hok bare (fun b z => nomatch z)
 have dead : ∀ b, s.heap.get? b = none -> s0.heap.get? b = none := fun b z => by
  cases q : s0.heap.get? b with
  | none => rfl
  | some o =>
    obtain ⟨o2, z2⟩ := I.base.there b o q (by intro y; cases y)
    rw [z] at z2
    cases z2
 show wpAny _ _ (leaving _ (.ref a)) _ _ s'
 refine wpAny_bind (noteD_next (base := base) I'.ok.frames I'.stack rfl tr fun h2 T2 tr2 hT2 lv => ?_)
 have d' : s'.heap.get? T2 = none -> s0.heap.get? T2 = none := fun z => by
  cases q : s0.heap.get? T2 with
  | none => rfl
  | some o =>
    obtain ⟨o2, z2⟩ := I'.base.there T2 o q (by intro y; cases y)
    rw [z] at z2
    cases z2
 refine cxd_left I' lv (fun b hb => ?_) tr2 ha ?_ (dead a na) ?_ hE
 . have : b = a \/ b = T := by simpa using hb
   rcases this with rfl | rfl
   . exact ⟨ha, dead _ na⟩
   . exact ⟨hT, dead _ nT⟩
 . rcases hT2 with rfl | z
   . exact hT
   . exact I'.hok.dead z
 . rcases hT2 with rfl | z
   . exact dead _ nT
   . exact d' z
def RaiseOkD (X : Cx) (E : St -> XK) : Prop := ∀ (pins : List (Addr × Obj)) (σ : St) (H : Hp) (s : Shared) (a C : Addr) (od : Option Addr) (oe : Obj) (vs : Array Value), Inv X pins σ H s -> s.heap.get? a = some oe -> oe.cls = .ref C -> oe.dict = od -> oe.data = .fields vs -> vs[1]? = some .none -> vs[2]? = some .none ->
 H a = none -> X.s₀.heap.get? a = none -> E σ (.ref C) od H -> X.xe (.ref a) s
theorem raiseD : RaiseOkD (cxOf (CXD P w) P w K mg base N qual scope f cd A outer s0 H0 E) (fun _ => E) := by
 intro pins σ H s a C od oe vs I e1 e2 e3 e4 v1 v2 ha na hE
 show wpAny _ _ (leaving _ (.ref a)) _ _ s
 refine wpAny_bind (noteD_first (base := base) I.ok.frames I.stack rfl e1 e3 e4 v1 v2 fun h2 T2 tr2 hT2 lv => ?_)
 rw [e2] at tr2
 refine cxd_left I lv (fun b hb => ?_) tr2 ha (I.hok.dead hT2) na ?_ hE
 . have : b = a := by simpa using hb
   subst this
   exact ⟨ha, na⟩
 . cases q : s0.heap.get? T2 with
   | none => rfl
   | some o =>
     obtain ⟨o2, z2⟩ := I.base.there T2 o q (by intro y; cases y)
     rw [hT2] at z2
     cases z2
end
structure CalD (P : Program) (w : World) (K : PySem.W.Frag) (mg : Str -> Option Value) (base : Heap) (k : Nat) (f : Addr) (ps : List Str) (dvs : List V) (sp : Sp) : Prop where
 ex : ∃ (fd : FuncData) (ds : List Value), FnOk P w K mg base (CXD P w) k f fd ps sp /\ Binds K fd ps ds /\ Vals dvs ds
theorem withD.out {sp : Sp} {vs : List V} {H : Hp} {Q : VK} {E : XK} (h : withD sp vs H Q E) : sp vs H Q E := let ⟨_, e, h⟩ := h; e ▸ h
def tCallS (sp : Sp) (dvs : List V) (E : St -> XK) (t : TA) : TE := fun σ H Q => t σ H fun vs H1 => withD sp (vs ++ dvs) H1 Q (E σ)
def tMethS (C : Addr) (m : Str) (sp : Sp) (dvs : List V) (E : St -> XK) (ta : TE) (t : TA) : TE := fun σ H Q => ta σ H fun x H1 => ∃ a dx fs, x = .ref a /\ H1 a = some (.ins C dx fs) /\ fs.lookup m = none /\
 t σ H1 fun vs H2 => withD sp (x :: (vs ++ dvs)) H2 Q (E σ)
def tMakeS (C : Addr) (sp : Sp) (dvs : List V) (E : St -> XK) (t : TA) : TE := fun σ H Q => t σ H fun vs H1 => MakeP C sp (vs ++ dvs) H1 Q (E σ)
section
variable {X : Cx} {CX : CXT} {k : Nat} {f C : Addr} {fd : FuncData} {ps : List Str} {sp : Sp} {dvs : List V} {ds : List Value} {E : St -> XK} {x m : Str} {p pos apos : Pos} {e o : Expr} {es : List Expr} {ta : TE} {t : TA}
theorem run_fnS {pins : List (Addr × Obj)} {σ : St} {H : Hp} {s : Shared} {Q : VK} {us : List Value} {vs : List V} (F : FnOk X.prog X.w X.K X.mg X.base CX k f fd ps sp) (hr : Room k X.A) (hb : Binds X.K fd ps ds) (hd : Vals dvs ds) (hx : PassesS CX X E)
 (I : Inv X pins σ H s) (r : Vals vs us) (h : sp (vs ++ dvs) H Q (E σ)) : wpAny (model X.prog X.w) X.A (call (.ref f) us) (EP X pins σ Q) X.xe s := by
 have r2 : Vals (vs ++ dvs) (us ++ ds) := r.append hd
 have hl : (us ++ ds).length = ps.length := by rw [<- r2.length]; exact F.len _ _ _ _ h
 refine wpAny_call (codeAny_mono (F.run X.A X.stack s H ⟨us, []⟩ (us ++ ds) (vs ++ dvs) Q (E σ) hr I.env0 (hb s us I.kIn hl) r2 h) fun r s' hq => ?_)
 cases r with
 | error e => exact hx pins σ H s e s' I hq
 | ok fl =>
   cases fl with
   | ret u => exact I.after hq
   | next => exact False.elim hq
   | brk => exact False.elim hq
   | cont => exact False.elim hq
theorem pd_call (c : CalD X.prog X.w X.K X.mg X.base k f ps dvs sp) (hr : Room k X.A) (hg : Gl X x) (hm : X.mg x = some (.ref f)) (hk : PySem.W.keepIn X.K (.ref f) = true) (hx : PassesS (CXD X.prog X.w) X E)
 (ha : PA X (e :: es) t) (hdb : (x == ("__debug__" : Str)) = false := by decide) (he : starEach (e :: es) X.env = (false, eval e X.env) :: starEach es X.env := by rfl) (hpl : (backTo pos (starEach es X.env)).any (·.1) = false := by rfl) :
 PE X (.Call (.Name x p) (e :: es) [] pos) (tCallS sp dvs E t) := by
 obtain ⟨fd, ds, F, hb, hd⟩ := c.ex
 intro pins s σ H Q I h
 refine wpAny_Call_Name_kw (ld_glob I hg hm ?_ hdb)
 refine PySem.W.callWith_K (h₀ := X.base) I.ok.mod.kin hk (thn (ha pos pins s σ H _ I h) fun us s1 ⟨vs, H1, I1, r, q⟩ => ⟨I1.kIn, ?_⟩) he hpl
 exact run_fnS F hr hb hd hx I1 r (withD.out q)
theorem pd_meth {pl : Sem Bool} (he : PE X o ta) (c : Cls X.K C) (hm : Meth X.K C m f) (F : CalD X.prog X.w X.K X.mg X.base k f ps dvs sp) (hr : Room k X.A) (hx : PassesS (CXD X.prog X.w) X E) (ha : PA X (e :: es) t)
 (hst : starEach (e :: es) X.env = (false, eval e X.env) :: starEach es X.env := by rfl) (hpl : (backTo pos (starEach es X.env)).any (·.1) = false := by rfl)
 (ht : eval (.Call (.Attribute o m apos) (e :: es) [] pos) X.env = (do
  let ov <- eval o X.env
  standAt apos.atName
  let (f, first) <- holding [ov] (getMethod ov m pl)
  callWith pos f first (backTo pos (starEach (e :: es) X.env)) (backToKw pos (keywordEach [] X.env))) := by rfl) :
 PE X (.Call (.Attribute o m apos) (e :: es) [] pos) (tMethS C m sp dvs E ta t) := by
 obtain ⟨fd, ds, F, hb, hd⟩ := F.ex
 intro pins s σ H Q I h
 refine PySem.W.methodCall_KW (pl := pl) (thn (he pins s σ H _ I h) fun u s1 ⟨x, H1, I1, rx, a, dx, fs, ex, ea, l, q⟩ => ?_) ht
 subst ex
 obtain rfl : u = Value.ref a := rx
 refine getmeth_ok I1 ea c hm l ?_
 refine PySem.W.callWith_K (first := [.ref a]) (h₀ := X.base) I.ok.mod.kin hm.kp (thn (ha pos pins s1 σ H1 _ I1 q) fun us s2 ⟨vs, H2, I2, r, q2⟩ => ⟨I2.kIn, ?_⟩) hst hpl
 exact run_fnS (us := .ref a :: us) (vs := .ref a :: vs) F hr hb hd hx I2 (.cons rfl r) (withD.out q2)
theorem pd_make (M : Mk X.K C f) (F : CalD X.prog X.w X.K X.mg X.base k f ps dvs sp) (hr : Room (k + 1) X.A) (hg : Gl X x) (hm : X.mg x = some (.ref C)) (hx : PassesS (CXD X.prog X.w) X E)
 (ha : PA X (e :: es) t) (hdb : (x == ("__debug__" : Str)) = false := by decide) (he : starEach (e :: es) X.env = (false, eval e X.env) :: starEach es X.env := by rfl) (hpl : (backTo pos (starEach es X.env)).any (·.1) = false := by rfl) :
 PE X (.Call (.Name x p) (e :: es) [] pos) (tMakeS C sp dvs E t) := by
 obtain ⟨fd, ds, F, hb, hd⟩ := F.ex
 intro pins s σ H Q I h
 refine wpAny_Call_Name_kw (ld_glob I hg hm ?_ hdb)
 refine PySem.W.callWith_K (h₀ := X.base) I.ok.mod.kin M.kp (thn (ha pos pins s σ H _ I h) fun us s1 ⟨vs, H1, I1, r, q⟩ => ⟨I1.kIn, ?_⟩) he hpl
 unfold MakeP at q
 obtain ⟨ws, ew, q⟩ := q
 have q := ew ▸ q
 have hq := q (s1.heap.objs.size + 1) s1.heap.objs.size (I1.hok.fresh (Nat.le_succ _)) (I1.hok.fresh (Nat.le_refl _)) (Nat.ne_of_lt (Nat.lt_succ_self _))
 have I2 := Inv.made (C := C) I1
 have r2 : Vals (V.ref (s1.heap.objs.size + 1) :: (vs ++ dvs)) (Value.ref (s1.heap.objs.size + 1) :: (us ++ ds)) := .cons rfl (r.append hd)
 have hl : (Value.ref (s1.heap.objs.size + 1) :: us ++ ds).length = ps.length := by
  have e := r2.length
  rw [F.len _ _ _ _ hq] at e
  exact e.symm
 refine wpAny_call (make_map (f := f) I1.kIn M.makes M.init (beq_iff_eq.mp M.fn) (codeAny_mono (F.run _ X.stack _ _ ⟨Value.ref (s1.heap.objs.size + 1) :: us, []⟩ (Value.ref (s1.heap.objs.size + 1) :: (us ++ ds)) _ _ (E σ) (hr.make C us [])
  (I2.env0.make C us []) (hb _ (Value.ref (s1.heap.objs.size + 1) :: us) I2.kIn hl) r2 hq) fun r s' hq' => ?_))
 cases r with
 | error e => exact hx pins σ _ _ e s' I2 hq'
 | ok fl =>
   cases fl with
   | ret u =>
     obtain ⟨v, H', I3, rv, ev, q3⟩ := I2.after hq'
     subst ev
     exact ⟨rv, ⟨V.ref (s1.heap.objs.size + 1), H', I3, rfl, q3⟩⟩
   | next => exact False.elim hq'
   | brk => exact False.elim hq'
   | cont => exact False.elim hq'
end
section
variable {P : Program} {w : World} {K : PySem.W.Frag} {mg : Str -> Option Value} {base : Heap}
theorem FunD.okD {x qual : Str} {st : Stmt} {f : Addr} {dV : Value} {fd : FuncData} {N ps : List Str} {k : Nat} {sp : Sp} (F : FunD K x qual st f dV fd) (S : FnScope N ps (defScope st)) (len : ∀ vs H Q E, sp vs H Q E -> vs.length = ps.length)
 (hbody : ∀ (cdv : Value) (A : Around) (outer : List Env) (s : Shared) (H : Hp) (vs : List V) (Q : VK) (E : XK), Room k (A.deeper (envOfC qual (defScope st) s.heap.objs.size f cdv)) -> sp vs H Q E ->
  ∃ t, PSs (cxOf (CXD P w) P w K mg base N qual (defScope st) f cdv A outer s H E) (defBody st) t /\ t { nx := fun _ H' => Q .non H', rt := Q } (start N vs) H) : FnOk P w K mg base (CXD P w) (k + 1) f fd ps sp := by
 obtain ⟨oc, od, kV, doc, pm, an, cdv, ct, osl, rfl, lk, hcd⟩ := F.ex
 exact fn_of lk hcd S len fun A outer s H vs Q E hr hsp => hbody cdv A outer s H vs Q E hr hsp
end
def onlyExc : List Value -> Bool
 | .ref _ :: r => onlyExc r
 | l => l == veB
theorem only_exc {l : List Value} (e : onlyExc l = true) (self : Value) : refuseLoop self "__setattr__" l = pure () := by
 induction l with
 | nil => cases e
 | cons v r ih =>
   cases v with
   | ref c => rw [refuseLoop_ref]; exact ih e
   | _ => have e' := beq_iff_eq.mp (show ((_ :: r) == veB) = true from e); rw [e']; exact PySem.F.store_ValueError.passes self
theorem only_obj {l : List Value} (e : onlyExc l = true) : l.contains (.type "object") = true /\ l.isEmpty = false := by
 refine ⟨?_, by cases l <;> first | rfl | cases e⟩
 induction l with
 | nil => cases e
 | cons v r ih =>
   cases v with
   | ref c => rw [List.contains_cons, ih e, Bool.or_true]
   | _ => have e' := beq_iff_eq.mp (show ((_ :: r) == veB) = true from e); rw [e']; decide
section
variable {prog : Program} {w : World} {A : Around} {E : Value -> Shared -> Prop} {s : Shared} {K : PySem.W.Frag} {x C : Addr} {ox : Obj} {name : Str} {v : Value} {cd : ClassData}
open Builtin.ObjectAttr in
theorem exc_osa {od : Option Obj} {tk : Tok} {R : Result -> Shared -> Prop} (X : K.In s.heap) (I : InstAt s.heap x ox C od) (hc : clsIn K C = some cd) (ho : onlyExc cd.mro = true) (ht : takerIn K C name = some none)
 (h : ∀ b, wpAny (model prog w) A.in1 (storeInOwnDict (.ref x) (.ref C) (.str name tk) name v b)
  (fun fin s' => match fin with | .done f => R (.ok f) s' | .again c' => c'.quiet = true /\ codeAny (model prog w) A c' R s') (fun e s' => R (.error e) s') s) :
 codeAny (model prog w) A (.call (.builtin "object.__setattr__") ⟨[.ref x, .str name tk, v], []⟩) R s := by
 have SF := PySem.F.store_object
 obtain ⟨hob, ne⟩ := only_obj ho
 have sub : Looks (model prog w) s.heap (isInstance (.ref x) (.type "object")) true := I.type.andThen (looks_mroIn X (by unfold mroIn; rw [hc, Option.bind_some, if_neg (by rw [ne]; decide), hob]))
 refine codeAny_call_builtin SF.slot.plain SF.entry (@check_slot (model prog w) _ _ s "object.__setattr__" "object" "__setattr__" (.ref x) [.str name tk, v] [] _ SF.kind SF.split sub (SF.args (.ref x) (.str name tk) v) ?_)
 obtain ⟨attr, ha, hr⟩ := Option.bind_eq_some_iff.mp ht
 have hm : Looks (model prog w) s.heap (mroOf (.ref C)) cd.mro := (looks_clsIn X hc).andThen .now
 have L3 : Looks (model prog w) s.heap (storeTaker? attr) none := by
  cases attr with
  | none => cases hr; exact .now
  | some a =>
    obtain ⟨b, hb, he⟩ := Option.map_eq_some_iff.mp hr
    refine (looks_takesIn X hb).andThen ?_
    cases b
    . exact .now
    . cases he
 rw [osa_eq, refuse_eq]
 refine wpAny_bind (wpAny_bind (I.type.here (wpAny_bind (hm.here ?_))))
 rw [only_exc ho]
 refine wpAny_pure (wpAny_bind (I.type.here (wpAny_bind ((looks_findIn X ha).here (wpAny_bind (L3.here ?_))))))
 exact h _
open Builtin.ObjectAttr in
theorem exc_set {vs : Array Value} {Q : Unit -> Shared -> Prop} (X : K.In s.heap) (hx : s.heap.get? x = some ox) (hcl : ox.cls = .ref C) (hd : ox.dict = none) (hf : ox.data = .fields vs)
 (hs : PySem.W.findIn K (.ref C) "__setattr__" = some (some (.builtin "object.__setattr__"))) (hc : clsIn K C = some cd) (ho : onlyExc cd.mro = true) (hh : cd.hasDict = true) (ht : takerIn K C name = some none)
 (h : ∀ h' d t', s.heap.get? d = none -> d ≠ x -> h'.get? x = some { ox with dict := some d } -> h'.Ns1 d (fun y => if y = name then some v else none) -> (∀ b o, b ≠ x -> s.heap.get? b = some o -> h'.get? b = some o) -> Q () { s with heap := h', toks := t' }) :
 wpAny (model prog w) A (setAttr (.ref x) name v) Q E s := by
 have J : InstAt s.heap x ox C none := ⟨hx, hcl, by unfold notCls; rw [hf], by rw [hd]; trivial⟩
 refine PySem.W.set_plain X J hs (exc_osa (s := { s with toks := s.toks + 1 }) X J hc ho ht fun b => ?_)
 unfold storeInOwnDict
 refine wpAny_bind (wpAny_pure ?_)
 rw [if_neg (by intro q; cases beq_iff_eq.mp q)]
 refine wpAny_bind ?_
 refine wpAny_bind (wpAny_loadPart hx ?_)
 rw [hcl]
 dsimp only
 refine wpAny_bind (PySem.W.Looks.here (s := { s with toks := s.toks + 1 }) (PySem.W.looks_clsIn X hc) ?_)
 rw [hh]
 simp only [Bool.not_true, Bool.false_eq_true, if_false]
 rw [hd]
 dsimp only
 rw [if_neg (by simp [typeHasDict]), hf]
 dsimp only
 have hx1 : (s.heap.push { cls := .type "dict", data := .dict #[] }).get? x = some ox := Heap.get?_push_of_some _ hx
 have hxs : x ≠ s.heap.objs.size := Nat.ne_of_lt (Heap.lt_size hx)
 refine wpAny_bind (wpAny_alloc' ?_)
 refine wpAny_bind (wpAny_update' hx1 ?_)
 refine wpAny_pure ?_
 have hgd : ((s.heap.push { cls := .type "dict", data := .dict #[] }).update x fun o => { cls := o.cls, dict := some s.heap.objs.size, data := o.data, slots := o.slots }).get? s.heap.objs.size = some { cls := .type "dict", data := .dict #[] } :=
  (Heap.get?_update_ne _ _ _ _ hxs.symm).trans (Heap.get?_push_at rfl rfl)
 have hnd : ((s.heap.push { cls := .type "dict", data := .dict #[] }).update x fun o => { cls := o.cls, dict := some s.heap.objs.size, data := o.data, slots := o.slots }).Ns s.heap.objs.size (fun _ => none) :=
  ⟨_, #[], _, hgd, rfl, fun e he => absurd he (by simp), fun _ => rfl⟩
 show wpAny _ _ (storeInDict s.heap.objs.size (.str name _) name v) _ _ _
 unfold storeInDict newKeyGuard
 refine wpAny_bind (wpAny_pure (wpAny_bind (wpAny_nsSet1 (Heap.Ns1.of_empty hnd) fun h' hn' hs' => ?_)))
 obtain ⟨oD, esD, epD, hoD, hdD, hcD⟩ := hn'.count (Within.cons name v Within.nil)
 refine wpAny_bind (wpAny_lookBehind hoD (by rw [hdD]; exact pastItsLine_dict (Nat.le_trans hcD (by rw [List.length_cons, List.length_nil, sizeLine_eq]; omega))) ?_)
 refine wpAny_pure ?_
 refine h h' s.heap.objs.size _ (Heap.get?_none_of_le (Nat.le_refl _)) hxs.symm ?_ hn' fun b ob hbx hb => ?_
 . refine (hs'.2 x hxs).trans ?_
   rw [Heap.get?_update_self _ hx1]
   have hfr := (Heap.get?_some_iff.mp hx).2
   obtain ⟨oc, od, odt, osl⟩ := ox
   cases odt <;> first | rfl | exact hfr
 . exact (hs'.2 b (Nat.ne_of_lt (Heap.lt_size hb))).trans ((Heap.get?_update_ne _ _ _ _ hbx).trans (Heap.get?_push_of_some _ hb))
end
def isM (a C : Addr) (od : Option Addr) : Heap -> Prop := fun h => ∃ o vs v0, h.get? a = some o /\ o.cls = .ref C /\ o.dict = od /\ o.data = .fields vs /\ vs[0]? = some v0 /\ vs[1]? = some .none /\ vs[2]? = some .none
theorem isM.ext {h : Heap} {a C : Addr} {od : Option Addr} (m : isM a C od h) : isM a C od h /\ (∃ o, h.get? a = some o) /\ ∀ h1 h2 : Heap, isM a C od h1 -> (∀ o, h1.get? a = some o -> h2.get? a = some o) -> isM a C od h2 :=
 ⟨m, let ⟨o, _, _, e, _⟩ := m; ⟨o, e⟩, fun _ _ ⟨o, vs, v0, e, r⟩ k => ⟨o, vs, v0, k o e, r⟩⟩
structure ExN (K : PySem.W.Frag) (C W fI : Addr) : Prop where
 cls : ∃ (nm q : Str) (N : Addr) (bs : List Value) (sn : List Str) (sub : List Value) (ab : Bool) (col : Option Bool) (dd : Option Addr) (k0 k1 k2 k3 k5 : Option Value), K.lookup C = some (excClassObj nm q C N bs (.ref W :: veB) true sn sub ab col dd k0 k1 k2 k3 k5 "ValueError.__new__")
 up : ExcK K W
 init : PySem.W.findIn K (.ref C) "__init__" = some (some (.ref fI))
 fn : PySem.W.isFn K (.ref fI) = true
 te : TyE K C
 sa : PySem.W.findIn K (.ref C) "__setattr__" = some (some (.builtin "object.__setattr__"))
 tk : PySem.W.takerIn K C "name" = some none
 nm : PySem.W.findIn K (.ref C) "name" = some none
def ExcO (K : PySem.W.Frag) (C : Addr) : Prop := ∀ h : Heap, K.In h -> ∃ (bm : List Value) (N : Addr) (nm q : Str) (bs : List Value) (hd : Bool) (sn : List Str) (sub : List Value) (ab : Bool) (col : Option Bool) (dd : Option Addr) (k0 k1 k2 k3 k5 : Option Value),
 h.get? C = some (excClassObj nm q C N bs bm hd sn sub ab col dd k0 k1 k2 k3 k5 "ValueError.__new__") /\ OwnTail h veB bm
theorem ExcK.o {K : PySem.W.Frag} {C : Addr} (h : ExcK K C) : ExcO K C := fun hp X => by
 obtain ⟨bm, N, nm, q, bs, hd, sn, sub, ab, col, dd, k0, k1, k2, k3, k5, mN, hC, _, _, T⟩ := exc_of X h
 exact ⟨bm, N, nm, q, bs, hd, sn, sub, ab, col, dd, k0, k1, k2, k3, k5, hC, T⟩
theorem ExN.tail {K : PySem.W.Frag} {C W fI : Addr} (e : ExN K C W fI) {h : Heap} (X : K.In h) : OwnTail h veB (.ref W :: veB) := by
 obtain ⟨bm, N, nm, q, bs, hd, sn, sub, ab, col, dd, k0, k1, k2, k3, k5, mN, hC, hN, hni, T⟩ := exc_of X e.up
 exact .own hC hN hni .base
theorem ExN.o {K : PySem.W.Frag} {C W fI : Addr} (e : ExN K C W fI) : ExcO K C := fun hp X => by
 obtain ⟨nm, q, N, bs, sn, sub, ab, col, dd, k0, k1, k2, k3, k5, hl⟩ := e.cls
 exact ⟨_, N, nm, q, bs, true, sn, sub, ab, col, dd, k0, k1, k2, k3, k5, X _ _ hl, e.tail X⟩
section
variable {prog : Program} {w : World} {A : Around} {E : Value -> Shared -> Prop} {h : Heap} {g : Array GenState} {d : Drawn} {t : Nat} {os : OsState}
variable {nm q : Str} {C N : Addr} {bs bm bmB : List Value} {hdct : Bool} {sn : List Str} {sub : List Value} {ab : Bool} {col : Option Bool} {dd : Option Addr} {k0 k1 k2 k3 k5 : Option Value} {B newId initId : String}
theorem type_call_initT {K : PySem.W.Frag} (F : ExcBaseFacts B newId initId bmB) (T : OwnTail h bmB bm) {rest : List Value} {fI : Addr} {Q : PySem.Fin -> Shared -> Prop} (X : K.In h)
 (hC : h.get? C = some (excClassObj nm q C N bs bm hdct sn sub ab col dd k0 k1 k2 k3 k5 newId)) (hi : PySem.W.findIn K (.ref C) "__init__" = some (some (.ref fI))) (hf : PySem.W.isFn K (.ref fI) = true)
 (hq : ∀ h' e, Heap.MadeExcOf h h' e (.ref C) rest ->
  wpAny (model prog w) A (call (.ref fI) (.ref e :: rest)) (fun r s' => r = .none /\ Q (.done (.ret (.ref e))) s') E ⟨h', g, d, t, os⟩) (hrest : rest.length <= sizeLine) :
 wpAny (model prog w) A (Builtin.«type.__call__» ⟨.ref C :: rest, []⟩) Q E ⟨h, g, d, t, os⟩ := by
 repeat (first | with_reducible refine wpAny_loadPart_at hC ?_ | with_reducible refine wpAny_madeBy_exc hC ?_ | wp_step)
 refine codeAny_call_builtin_code (Code.quiet_builtin _ F.quiet) (wpAny_check_new_subT F T hC ?_)
 refine codeAny_exc_new_subT F T hC ?_ hrest
 show wpAny _ _ _ _ _ _
 have kp : ∀ b o, h.get? b = some o -> ((h.push { cls := .type "tuple", data := .seq rest.toArray }).push { cls := .ref C, data := .fields #[.ref h.objs.size, .none, .none, .none, .bool false, .none] }).get? b = some o := fun b o e => Heap.get?_push_of_some _ (Heap.get?_push_of_some _ e)
 have hC₁ := kp _ _ hC
 have X₁ := X.keeps kp
 have hget : ((h.push { cls := .type "tuple", data := .seq rest.toArray }).push
  { cls := .ref C, data := .fields #[.ref h.objs.size, .none, .none, .none, .bool false, .none] }).get? (h.objs.size + 1) = some
  { cls := .ref C, data := .fields #[.ref h.objs.size, .none, .none, .none, .bool false, .none] } := by heap_get
 have hcC : (Value.ref C :: bm).contains (.ref C) = true := by simp
 unfold isInstance
 repeat (first | with_reducible refine wpAny_loadPart_at hget ?_ | (with_reducible refine wpAny_isSubtype_exc hC₁ ?_; rw [hcC]) | wp_step)
 show wpAny _ _ (typeLookup (.ref C) _) _ _ _
 refine (PySem.W.looks_findIn (M := model prog w) X₁ hi).at ?_
 refine wpAny_holding (wpAny_bind ?_)
 refine (PySem.W.bind_fn (M := model prog w) X₁ _ (beq_iff_eq.mp hf)).at ?_
 refine wpAny_bind (wpAny_mono (hq _ (h.objs.size + 1) ⟨kp, Heap.get?_none_of_le (Nat.le_succ _), h.objs.size, hget, Heap.get?_none_of_le (Nat.le_refl _), ?_⟩) (fun r s' hr => ?_) fun _ _ x => x)
 . exact Heap.get?_push_of_some _ (Heap.get?_push_at rfl rfl)
 . obtain ⟨rfl, hQ⟩ := hr
   wp_walk
   exact hQ
theorem call_exc_initT {K : PySem.W.Frag} (F : ExcBaseFacts B newId initId bmB) (T : OwnTail h bmB bm) {rest : List Value} {fI : Addr} {Q : Value -> Shared -> Prop} (X : K.In h)
 (hC : h.get? C = some (excClassObj nm q C N bs bm hdct sn sub ab col dd k0 k1 k2 k3 k5 newId)) (hi : PySem.W.findIn K (.ref C) "__init__" = some (some (.ref fI))) (hf : PySem.W.isFn K (.ref fI) = true)
 (hq : ∀ h' e, Heap.MadeExcOf h h' e (.ref C) rest ->
  wpAny (model prog w) (A.under (.builtin "type.__call__" ⟨.ref C :: rest, []⟩)) (call (.ref fI) (.ref e :: rest)) (fun r s' => r = .none /\ Q (.ref e) s') E ⟨h', g, d, t, os⟩) (hrest : rest.length <= sizeLine) :
 wpAny (model prog w) A (call (.ref C) rest) Q E ⟨h, g, d, t, os⟩ := by
 have f1 := tc_lookup
 have f2 := tc_bind (.ref C)
 have hT : (⟨h, g, d, t, os⟩ : Shared).TypeIs (.ref C) "type" := ⟨_, hC, rfl⟩
 refine wpAny_call (codeAny_of_tree ?_)
 show wpAny _ _ (callAny (.ref C) _) _ _ _
 repeat (any_goals (first | assumption | with_reducible refine wpAny_loadPart_at hC ?_ | wp_step))
 refine ⟨rfl, ?_⟩
 refine codeAny_call_builtin_at (Code.quiet_builtin _ (by decide +kernel)) entry_typeCall (wpAny_check_type_call_sub hC (type_call_initT (hrest := hrest) F T X hC hi hf fun h' e hm => ?_))
 exact hq h' e hm
end
theorem upd_id {H : Hp} {a : Addr} {o : HO} (e : H a = some o) : upd H a o = H := by
 funext b
 unfold upd
 split
 . rename_i z; rw [z, e]
 . rfl
structure InitB (K : PySem.W.Frag) (W : Addr) : Prop where
 ga : PySem.W.specialIn K (.ref W) "__getattribute__" = some (some (.builtin "type.__getattribute__"))
 rd : PySem.W.readsIn K W (.type "type") = true
 fd : PySem.W.findCls K (.ref W) (.type "type") "__init__" = some (.val (.builtin "ValueError.__init__"))
def ExcInitP (K : PySem.W.Frag) (vs : List V) (H : Hp) (Q : VK) : Prop := ∃ a C od ys, vs = .ref a :: ys /\ ys.length <= 100 /\ H a = some (.ext (isM a C od)) /\ ExcO K C /\ Q .non H
def tExcInit (K : PySem.W.Frag) (t : TA) : TE := fun σ H Q => t σ H fun vs H1 => ExcInitP K vs H1 Q
section
variable {X : Cx} {W : Addr} {x : Str} {p pos apos : Pos} {e : Expr} {es : List Expr} {t : TA} {pl : Sem Bool}
theorem pe_excInit (hg : Gl X x) (hm : X.mg x = some (.ref W)) (B : InitB X.K W) (ha : PA X (e :: es) t)
 (hdb : (x == ("__debug__" : Str)) = false := by decide)
 (hst : starEach (e :: es) X.env = (false, eval e X.env) :: starEach es X.env := by rfl) (hpl : (backTo pos (starEach es X.env)).any (·.1) = false := by rfl)
 (ht : eval (.Call (.Attribute (.Name x p) "__init__" apos) (e :: es) [] pos) X.env = (do
  let ov <- eval (.Name x p) X.env
  standAt apos.atName
  let (f, first) <- holding [ov] (getMethod ov "__init__" pl)
  callWith pos f first (backTo pos (starEach (e :: es) X.env)) (backToKw pos (keywordEach [] X.env))) := by rfl) :
 PE X (.Call (.Attribute (.Name x p) "__init__" apos) (e :: es) [] pos) (tExcInit X.K t) := by
 intro pins s σ H Q I h
 refine PySem.W.methodCall_KW (pl := pl) (ld_glob I hg hm ?_ hdb) ht
 refine PySem.W.method_cls I.kIn B.ga ?_
 refine PySem.W.cls_value I.kIn B.rd B.fd rfl ?_
 have I' : Inv X pins σ H { s with toks := s.toks + 1 } := I.tok _
 show wpAny _ _ (callWith pos (.builtin "ValueError.__init__") [] (backTo pos (starEach (e :: es) X.env)) []) _ _ _
 refine PyProof.Rows.callWith_builtin1 (thn (ha pos pins _ σ H _ I' h) fun us s2 ⟨vs, H2, I2, r, q2⟩ => ?_) hst hpl
 obtain ⟨a, C, od, ys, rfl, hly, hH, hO, q⟩ := q2
 cases r with
 | cons ra ru =>
 rename_i u us _
 obtain rfl : u = Value.ref a := ra
 obtain ⟨⟨o, vs', v0, e1, e2, e3, e4, e5, e6, e7⟩, _⟩ := (show ObjOk X.prog X.w H2 s2.heap a (.ext (isM a C od)) from I2.hok a _ hH)
 obtain ⟨bm, N, nm, q', bs, hd, sn, sub, ab, col, dd, k0, k1, k2, k3, k5, hC, T⟩ := hO _ I2.kIn
 obtain ⟨hp, g, d, tk, os⟩ := s2
 have F := PySem.F.excBase_ValueError
 have hul : us.length <= sizeLine := by rw [<- ru.length, sizeLine_eq]; omega
 refine wpAny_call (codeAny_call_builtin F.init.plain F.initEntry (wpAny_check_init_subT F T hC e1 e2 ?_))
 show wpAny _ _ (newTuple us >>= fun t => Builtin.BaseException.bexcPut (.ref a) 0 t >>= fun _ => ret .none) _ _ _
 refine wpAny_bind (wpAny_newTuple ?_ hul)
 unfold Builtin.BaseException.bexcPut
 have kp : ∀ b u, hp.get? b = some u -> (hp.push (seqObj "tuple" us.toArray 0)).get? b = some u := fun b u z => Heap.get?_push_of_some _ z
 have I3 : Inv X pins σ H2 ⟨hp.push (seqObj "tuple" us.toArray 0), g, d, tk, os⟩ := I2.kept (t' := tk) kp
 have e1' := kp _ _ e1
 have hz : 0 < vs'.size := (Array.getElem?_eq_some_iff.mp e5).1
 refine wpAny_bind (wpAny_bind (wpAny_field e1' e4 e5 (wpAny_bind (wpAny_setField e1' e4 hz ?_))))
 have d3 := Obj.data_mapFields e4 (·.setIfInBounds 0 (Value.ref hp.objs.size))
 have e3' := Heap.get?_update_self (Obj.mapFields (·.setIfInBounds 0 (Value.ref hp.objs.size))) e1' (Obj.isFreed_of_fields d3)
 have I4 : Inv X pins σ H2 ⟨(hp.push (seqObj "tuple" us.toArray 0)).update a (Obj.mapFields (·.setIfInBounds 0 (Value.ref hp.objs.size))), g, d, tk, os⟩ := by
  have J := I3.write (x := a) (e := a) (o := .ext (isM a C od)) (t' := tk) (h' := (hp.push (seqObj "tuple" us.toArray 0)).update a (Obj.mapFields (·.setIfInBounds 0 (Value.ref hp.objs.size)))) (by rw [hH]; trivial) (.inl rfl) (fun b u hb z => (Heap.get?_update_other _ _ (Ne.symm hb)).trans z) ⟨_, e3'⟩
   (isM.ext ⟨_, _, .ref hp.objs.size, e3', ?_, ?_, d3, by simp [hz], ?_, ?_⟩)
  . rw [upd_id hH] at J; exact J
  . rw [Obj.cls_mapFields]; exact e2
  . obtain ⟨c0, d0, dt0, sl0⟩ := o
    cases dt0 <;> first | exact e3 | (cases e4)
  . rw [Array.getElem?_setIfInBounds_ne (by decide)]; exact e6
  . rw [Array.getElem?_setIfInBounds_ne (by decide)]; exact e7
 have fin : EP X pins σ Q Value.none ⟨(hp.push (seqObj "tuple" us.toArray 0)).update a (Obj.mapFields (·.setIfInBounds 0 (Value.ref hp.objs.size))), g, d, tk, os⟩ := ⟨.non, H2, I4, rfl, q⟩
 cases v0
 case ref b => exact wpAny_letGo (wpAny_pure fin)
 all_goals exact wpAny_pure (wpAny_pure fin)
end
theorem cls_of {K : PySem.W.Frag} {C : Addr} {c0 : Value} {dd : Option Addr} {cd : ClassData} {sl : Array (Option Value)} (h : K.lookup C = some ⟨c0, dd, .cls cd, sl⟩) : clsIn K C = some cd := by unfold clsIn; rw [h]
def sFldX (K : PySem.W.Frag) (ta tv : TE) : TS := fun D σ H => tv σ H fun y H1 => ta σ H1 fun x H2 => ∃ a C W fI, x = .ref a /\ H2 a = some (.ext (isM a C none)) /\ ExN K C W fI /\ ∀ d, H2 d = none -> d ≠ a -> D.nx σ (upd (upd H2 d (.xd [("name", y)])) a (.ext (isM a C (some d))))
theorem ps_fldX {X : Cx} {o value : Expr} {pos pos' : Pos} {ta tv : TE} (ha : PE X o ta) (hv : PE X value tv) (hs : swapsWith value (some (.Attribute o "name" pos')) pos.line X.env = pure false) : PS X (.Assign [.Attribute o "name" pos'] value pos) (sFldX X.K ta tv) := by
 intro pins s σ H D I h
 refine plainObj_wpAny_Assign_Attribute (thn (hv pins s σ H _ I h) fun u s1 ⟨y, H1, I1, ry, q⟩ => thn (ha pins s1 σ H1 _ I1 q) fun ov s2 ⟨x, H2, I2, rx, a, C, W, fI, ex, ea, n, q2⟩ => ?_) hs
 subst ex
 obtain rfl : ov = Value.ref a := rx
 obtain ⟨⟨o, vs, v0, e1, e2, e3, e4, e5, e6, e7⟩, _⟩ := (show ObjOk X.prog X.w H2 s2.heap a (.ext (isM a C none)) from I2.hok a _ ea)
 obtain ⟨nm, qn, N, bs, sn, sub, ab, col, dd, k0, k1, k2, k3, k5, hl⟩ := n.cls
 have hc := cls_of hl
 refine exc_set I2.kIn e1 e2 e3 e4 n.sa hc rfl rfl n.tk fun h' d t' hd hda hx hns kp => ?_
 have hHd : H2 d = none := I2.hok.dead hd
 refine ⟨σ, _, ?_, q2 d hHd hda⟩
 have neL : ∀ b, H2 b = none -> b ≠ a := fun b z y => by rw [y, ea] at z; cases z
 have nda : ∀ b o, s2.heap.get? b = some o -> b ≠ d := fun b o z y => by rw [y, hd] at z; cases z
 have old : ∀ b u, H2 b = some u -> b ≠ a -> upd (upd H2 d (.xd [("name", y)])) a (.ext (isM a C (some d))) b = some u := fun b u z nb => by
  rw [upd_ne nb, upd_ne (fun y => by rw [y, hHd] at z; cases z)]; exact z
 refine I2.step (g' := s2.gens) (d' := s2.drawn) (t' := t') (ch := []) (fun _ z => nomatch z) (fun b o _ _ _ z n => kp b o (neL b n) z) (fun b o _ _ _ z n => ⟨o.slots, kp b o (neL b n) z⟩) (fun b o _ z n => ?_) (fun b o _ z => ?_) (fun b xs z => old b _ z (fun y => by rw [y, ea] at z; cases z)) (fun b o u z => old b _ z (fun y => by rw [y, ea] at z; cases z)) (fun b ps z => ⟨#[], by rw [Array.append_empty]; exact old b _ z (fun y => by rw [y, ea] at z; cases z)⟩) (fun m hm => ?_) (fun b u z => ?_) I2.bare
 . rw [upd_ne (neL b n), upd_ne (nda b o z)]; exact n
 . by_cases hb : b = a
   . exact ⟨_, hb ▸ hx⟩
   . exact ⟨o, kp b o hb z⟩
 . obtain ⟨o', es, ep, z, r⟩ := hm
   exact ⟨o', es, ep, kp _ _ (neL _ I2.free) z, r⟩
 . by_cases hb : b = a
   . subst hb
     rw [upd_same] at z
     cases z
     exact isM.ext ⟨_, vs, v0, hx, e2, rfl, e4, e5, e6, e7⟩
   . by_cases hb2 : b = d
     . subst hb2
       rw [upd_ne hb, upd_same] at z
       cases z
       refine ⟨_, hns, fun f => ?_⟩
       by_cases hf : f = Str.ofString "name"
       . subst hf; rw [if_pos rfl]; simp [List.lookup]; exact ry
       . rw [if_neg hf]
         have : (f == Str.ofString "name") = false := beq_eq_false_iff_ne.mpr hf
         simp [List.lookup, this]; trivial
     . rw [upd_ne hb, upd_ne hb2] at z
       refine (I2.hok b u z).stay (fun c v hc' q' => ?_) (fun c z' => old c _ z' (fun y => by rw [y, ea] at z'; cases z')) fun c xs z' => old c _ z' (fun y => by rw [y, ea] at z'; cases z')
       refine kp c v ?_ q'
       rcases hc' with rfl | hc'
       . exact hb
       . intro y; rw [y, ea] at hc'; cases hc'
def del (H : Hp) (a : Addr) : Hp := fun b => if b = a then none else H b
theorem del_ne {H : Hp} {a b : Addr} (h : b ≠ a) : del H a b = H b := if_neg h
theorem del_same {H : Hp} {a : Addr} : del H a a = none := if_pos rfl
theorem Inv.untrack {X : Cx} {pins : List (Addr × Obj)} {σ : St} {H : Hp} {s : Shared} {a : Addr} {φ : Heap -> Prop} (I : Inv X pins σ H s) (e : H a = some (.ext φ)) : Inv X pins σ (del H a) s := by
 have old : ∀ b u, H b = some u -> (∀ φ, u ≠ .ext φ) -> del H a b = some u := fun b u z nu => by
  rw [del_ne (fun y => by rw [y, e] at z; exact nu φ (Option.some.inj z).symm)]; exact z
 have fr : ∀ b, H b = none -> del H a b = none := fun b z => by unfold del; split <;> first | rfl | exact z
 refine ⟨I.ok, I.os, I.bare, ⟨I.base.keep, I.base.slot, fun b o z n hx => fr b (I.base.free b o z n hx), I.base.there, fun b xs z => old b _ (I.base.tups b xs z) (by intro _ y; cases y), fun b o u z => old b _ (I.base.frzs b o u z) (by intro _ y; cases y), fun b ps z => ?_⟩, I.loc, I.cell, fr _ I.free, fun x c z => fr _ (I.freeC x c z), fun p hp => ?_, fun b u z => ?_, I.len⟩
 . obtain ⟨m, z'⟩ := I.base.tbls b ps z
   exact ⟨m, old b _ z' (by intro _ y; cases y)⟩
 . obtain ⟨e1, e2, e3⟩ := I.pin p hp
   exact ⟨e1, fr _ e2, e3⟩
 . by_cases hb : b = a
   . rw [hb, del_same] at z; cases z
   . rw [del_ne hb] at z
     exact (I.hok b u z).stay (fun _ _ _ q => q) (fun c q => old c _ q (by intro _ y; cases y)) fun c xs q => old c _ q (by intro _ y; cases y)
section
variable {prog : Program} {w : World} {A : Around} {E : Value -> Shared -> Prop} {s : Shared} {env : Env}
variable {nm q : Str} {C N : Addr} {bs bm bmB : List Value} {hdct : Bool} {sn : List Str} {sub : List Value} {ab : Bool} {col : Option Bool} {dd : Option Addr} {k0 k1 k2 k3 k5 : Option Value} {newId : String}
theorem raise_made {x : Sem Value} {Q : Flow -> Shared -> Prop} (hbase : bm.contains (.type "BaseException") = true) (hh : A.handled = none)
 (h : wpAny (model prog w) A x (fun v s₁ => ∃ e oe vs, v = .ref e /\ s₁.heap.get? C = some (excClassObj nm q C N bs bm hdct sn sub ab col dd k0 k1 k2 k3 k5 newId) /\
  s₁.heap.get? e = some oe /\ oe.cls = .ref C /\ oe.data = .fields vs /\ vs[1]? = some .none /\ E (.ref e) s₁) E s) :
 wpAny (model prog w) A (raiseStmt env (some x) none) Q E s := by
 have hcB : (Value.ref C :: bm).contains (.type "BaseException") = true := by rw [List.contains_cons, hbase, Bool.or_true]
 unfold raiseStmt
 refine wpAny_bind (wpAny_mono h (fun v s₁ h₁ => ?_) fun _ _ x => x)
 obtain ⟨e, oe, vs, rfl, hC, he, hcls, hdat, hv1, hE⟩ := h₁
 obtain ⟨hp, g, d, tk, os⟩ := s₁
 repeat (first | (with_reducible refine wpAny_loadPart_at he ?_; first | rw [hcls] | rw [hdat]) | with_reducible refine wpAny_loadPart_at hC ?_ | (with_reducible refine wpAny_isSubtype_exc hC ?_; rw [hcB]) | wp_step)
 rw [hdat]
 refine wpAny_pure ?_
 rw [hv1]
 refine wpAny_pure ?_
 rw [if_neg (by decide)]
 exact wpAny_pure (wpAny_raiseNew_none hh hE)
end
def NmT (n : Str) : Prop := n.length <= 1000 /\ ∀ c ∈ n.cps.toList, c < 1114112
def tRaiseN (C : Addr) (E : St -> XK) (ta : TA) : TS := fun _ σ H => ta σ H fun vs H1 => ∃ n, vs = [.str n] /\ NmT n /\ ∀ d, H1 d = none -> E σ (.ref C) (some d) (upd H1 d (.xd [("name", .str n)]))
def tRaiseP (C : Addr) (E : St -> XK) (ta : TA) : TS := fun _ σ H => ta σ H fun vs H1 => vs.length <= sizeLine /\ E σ (.ref C) none H1
def sp_initN (K : PySem.W.Frag) (C : Addr) : Sp := fun vs H Q _ => ∃ a n, vs = [.ref a, .str n] /\ NmT n /\ H a = some (.ext (isM a C none)) /\ ∀ d, H d = none -> d ≠ a -> Q .non (upd (upd H d (.xd [("name", .str n)])) a (.ext (isM a C (some d))))
theorem ps_raiseN {X : Cx} {E : St -> XK} {C W fI : Addr} {k : Nat} {x : Str} {np cpos pos : Pos} {e : Expr} {ta : TA} (hX : RaiseOkD X E) (hc : X.calm = true) (ha : PA X [e] ta) (hg : Gl X x) (hm : X.mg x = some (.ref C)) (hq : ExN X.K C W fI) (hr : Room (k + 1) X.A)
 (F : Cal X.prog X.w X.K X.mg X.base k fI ["self", "name"] [] (sp_initN X.K C)) (hex : X.ex = [])
 (hs : starEach [e] X.env = (false, eval e X.env) :: starEach [] X.env := by rfl) (hplain : (backTo cpos (starEach [e] X.env)).any (·.1) = false := by rfl) (hdb : (x == ("__debug__" : Str)) = false := by decide) :
 PS X (.Raise (some (.Call (.Name x np) [e] [] cpos)) none pos) (tRaiseN C E ta) := by
 intro pins s σ H D I h
 obtain ⟨nm, qn, N, bs, sn, sub, ab, col, dd, k0, k1, k2, k3, k5, hl⟩ := hq.cls
 have T := hq.tail I.kIn
 rw [arm_exec_Raise]
 refine wpAny_bind (wpAny_standAt ?_)
 show wpAny _ _ (raiseStmt X.env (some (do let v <- eval (.Call (.Name x np) [e] [] cpos) X.env; standAt pos; pure v)) none) _ _ s
 refine raise_made (C := C) (nm := nm) (q := qn) (N := N) (bs := bs) (bm := .ref W :: veB) (hdct := true) (sn := sn) (sub := sub) (ab := ab) (col := col) (dd := dd) (k0 := k0) (k1 := k1) (k2 := k2) (k3 := k3) (k5 := k5) (newId := "ValueError.__new__") (T.hasType (by decide)) (I.ok.hd hc) ?_
 refine wpAny_bind (wpAny_mono (Q := fun v s₁ => ∃ e oe vs, v = .ref e /\ s₁.heap.get? C = some (excClassObj nm qn C N bs (.ref W :: veB) true sn sub ab col dd k0 k1 k2 k3 k5 "ValueError.__new__") /\ s₁.heap.get? e = some oe /\ oe.cls = .ref C /\ oe.data = .fields vs /\ vs[1]? = some .none /\ X.xe (.ref e) s₁) ?_ (fun v s₁ z => wpAny_bind (wpAny_standAt (wpAny_pure z))) fun _ _ z => z)
 refine wpAny_Call_ofName (ld_glob I hg hm ?_ hdb)
 have hA := ha cpos pins s σ H _ I h
 unfold callWith
 refine wpAny_bind (wpAny_holding ?_)
 rw [hs] at hA hplain ⊢
 refine Calls.evalArgs_plain (thn hA fun us s1 ⟨vs, H1, I1, r1, n, hv, hn, q1⟩ => ?_)
 refine wpAny_bind (wpAny_standAt ?_)
 simp only [hplain]
 have hC1 := I1.kIn _ _ hl
 have T1 := hq.tail I1.kIn
 have hul : us.length <= sizeLine := by rw [<- r1.length, hv, sizeLine_eq]; simp
 obtain ⟨hp, g, d, tk, os⟩ := s1
 refine wpAny_bind (wpAny_keeperOf_exc hC1 ?_)
 obtain ⟨fd, ds, F, hb, hds⟩ := F.ex
 cases hds
 refine wpAny_bind (call_exc_initT PySem.F.excBase_ValueError T1 I1.kIn hC1 hq.init hq.fn (fun h' e hm => ?_) hul)
 obtain ⟨t0, e1, _, _⟩ := hm.there
 have I2 : Inv X pins σ H1 ⟨h', g, d, tk, os⟩ := I1.kept (t' := tk) fun b u z => hm.keeps b u z
 have dead : X.s₀.heap.get? e = none := by
  cases q' : X.s₀.heap.get? e with
  | none => rfl
  | some o =>
    obtain ⟨o2, z2⟩ := I1.base.there e o q' (by rw [hex]; intro y; cases y)
    rw [hm.new] at z2
    cases z2
 have hHe : H1 e = none := I1.hok.dead hm.new
 have I3 : Inv X pins σ (upd H1 e (.ext (isM e C none))) ⟨h', g, d, tk, os⟩ := I2.trackE hHe dead (fun y => by
  obtain ⟨m, ⟨o, _, _, ho, _⟩, _⟩ := I1.loc
  rw [<- y, hm.new] at ho
  cases ho) (fun x c z y => by
  obtain ⟨v, o, ho, _⟩ := I1.cell x c z
  rw [y, hm.new] at ho
  cases ho) (fun p hp' y => by
  have ho := (I1.pin p hp').1
  rw [y, hm.new] at ho
  cases ho) (isM.ext ⟨_, _, _, e1, rfl, rfl, rfl, rfl, rfl, rfl⟩)
 have r2 : Vals [.ref e, .str n] (.ref e :: us) := .cons rfl (hv ▸ r1)
 have hsp : sp_initN X.K C [.ref e, .str n] (upd H1 e (.ext (isM e C none))) (fun v H2 => v = .non /\ ∃ d, H1 d = none /\ d ≠ e /\ H2 = upd (upd (upd H1 e (.ext (isM e C none))) d (.xd [("name", .str n)])) e (.ext (isM e C (some d)))) E0 :=
  ⟨e, n, rfl, hn, upd_same, fun d' h1 h2 => ⟨rfl, d', by rw [upd_ne h2] at h1; exact h1, h2, rfl⟩⟩
 have hlen : (Value.ref e :: us ++ []).length = ["self", "name"].length := by have := r2.length; simp at this ⊢; omega
 have hbd := hb ⟨h', g, d, tk, os⟩ (.ref e :: us) I2.kIn hlen
 rw [List.append_nil] at hbd
 refine wpAny_call (codeAny_mono (F.run _ X.stack ⟨h', g, d, tk, os⟩ _ ⟨.ref e :: us, []⟩ (.ref e :: us) _ _ E0 (hr.make C us []) (I3.env0.make C us []) hbd r2 hsp) fun r s' hq' => ?_)
 cases r with
 | error e => exact hq'.elim
 | ok fl =>
   cases fl with
   | next => exact False.elim hq'
   | brk => exact False.elim hq'
   | cont => exact False.elim hq'
   | ret u =>
     obtain ⟨v, H', I4, rv, ev, d', hd1, hd2, rfl⟩ := I3.after hq'
     subst ev
     refine ⟨rv, wpAny_bind (wpAny_holding (wpAny_point (wpAny_pure ?_)))⟩
     obtain ⟨⟨oe, ws, v0, f1, f2, f3, f4, f5, f6, f7⟩, _⟩ := (show ObjOk X.prog X.w _ s'.heap e (.ext (isM e C (some d'))) from I4.hok e _ upd_same)
     refine ⟨e, oe, ws, rfl, I4.kIn _ _ hl, f1, f2, f4, f6, ?_⟩
     have eH : del (upd (upd (upd H1 e (.ext (isM e C none))) d' (.xd [("name", .str n)])) e (.ext (isM e C (some d')))) e = upd H1 d' (.xd [("name", .str n)]) := by
      funext b
      by_cases hbe : b = e
      . subst hbe; rw [del_same, upd_ne (Ne.symm hd2), hHe]
      . rw [del_ne hbe, upd_ne hbe]
        unfold upd
        split <;> first | rfl | (rw [if_neg hbe])
     have I5 := I4.untrack upd_same
     rw [eH] at I5
     exact hX pins σ _ s' e C (some d') oe ws I5 f1 f2 f3 f4 f6 f7 (by rw [upd_ne (Ne.symm hd2)]; exact hHe) dead (q1 d' hd1)
theorem ps_raiseP {X : Cx} {E : St -> XK} {C : Addr} {x : Str} {np cpos pos : Pos} {e : Expr} {ta : TA} (hX : RaiseOkD X E) (hc : X.calm = true) (ha : PA X [e] ta) (hg : Gl X x) (hm : X.mg x = some (.ref C)) (hq : ExcK X.K C) (hex : X.ex = [])
 (hs : starEach [e] X.env = (false, eval e X.env) :: starEach [] X.env := by rfl) (hplain : (backTo cpos (starEach [e] X.env)).any (·.1) = false := by rfl) (hdb : (x == ("__debug__" : Str)) = false := by decide) :
 PS X (.Raise (some (.Call (.Name x np) [e] [] cpos)) none pos) (tRaiseP C E ta) := by
 intro pins s σ H D I h
 obtain ⟨bm, N, nm, q, bs, hd, sn, sub, ab, col, dd, k0, k1, k2, k3, k5, mN, hC, hN, hni, T⟩ := exc_of I.mod.kin hq
 refine wpAny_Raise_call_subT (C := C) (nm := nm) (q := q) (N := N) (bs := bs) (bm := bm) (hdct := hd) (sn := sn) (sub := sub) (ab := ab) (col := col) (dd := dd) (k0 := k0) (k1 := k1) (k2 := k2) (k3 := k3) (k5 := k5) (mN := mN) PySem.F.excBase_ValueError (T.hasType (by decide)) (I.ok.hd hc) hplain hni (ld_glob I hg hm ⟨rfl, ?_⟩ hdb)
 have hA := ha cpos pins s σ H _ I h
 rw [hs] at hA ⊢
 refine Calls.evalArgs_plain (thn hA fun us s1 ⟨vs, H1, I1, r1, hul, q1⟩ => ?_)
 rw [r1.length] at hul
 refine ⟨rfl, hul, I1.bk _ _ hC, hN.at' fun o e => I1.bk _ _ e, T.keeps I1.bk, fun h2 a m => ?_⟩
 obtain ⟨t0, e1, _, _⟩ := m.there
 have I2 : Inv X pins σ H1 { s1 with heap := h2 } := I1.kept (t' := s1.toks) fun b u z => m.keeps b u z
 have dead : X.s₀.heap.get? a = none := by
  cases q' : X.s₀.heap.get? a with
  | none => rfl
  | some o =>
    obtain ⟨o2, z2⟩ := I1.base.there a o q' (by rw [hex]; intro y; cases y)
    rw [m.new] at z2
    cases z2
 exact hX pins σ H1 _ a C none _ _ I2 e1 rfl rfl rfl rfl rfl (I1.hok.dead m.new) dead q1
def ClD (X : Cx) (cl : Expr) (hit : Addr -> Bool -> Prop) : Prop := ∀ (a C T : Addr) (od : Option Addr) (pins : List (Addr × Obj)) (σ : St) (H : Hp) (s : Shared) (Q : Bool -> Shared -> Prop) (E : Value -> Shared -> Prop) (b : Bool), Inv X pins σ H s -> TrD s.heap a T (.ref C) od -> hit C b ->
 (∀ h', (∀ b o, s.heap.get? b = some o -> h'.get? b = some o) -> Q b { s with heap := h' }) ->
 wpAny (model X.prog X.w) (X.hand a).A (eval cl X.env) (fun c s1 => wpAny (model X.prog X.w) (X.hand a).A (excMatches (.ref a) c) Q E s1) E s
structure HdR where
 hit : Addr -> Bool -> Prop
 i : Option Nat
 ts : Addr -> TS
def NameOk (X : Cx) : Option Str -> Option Nat -> Prop
 | some n, some i => X.N[i]? = some n /\ X.env.scope.names.lookup n = some .local
 | none, none => True
 | _, _ => False
inductive HdsOk (X : Cx) : List ExceptHandler -> List HdR -> Prop
 | nil : HdsOk X [] []
 | cons {cl : Expr} {n : Option Str} {b0 : Stmt} {suite : List Stmt} {pos : Pos} {hs : List ExceptHandler} {hit : Addr -> Bool -> Prop} {i : Option Nat} {ts : Addr -> TS} {rs : List HdR} (hc : ClD X cl hit) (hb : ∀ a, PSs (X.hand a) (b0 :: suite) (ts a)) (hn : NameOk X n i) (r : HdsOk X hs rs) :
  HdsOk X (.ExceptHandler (some cl) n (b0 :: suite) pos :: hs) (⟨hit, i, ts⟩ :: rs)
section
variable {X : Cx} {pins : List (Addr × Obj)} {σ : St} {H : Hp} {a C : Addr} {od : Option Addr} {Dn : Ends}
end
theorem repr_len {x : Str} (h : NmT x) : (reprText x).length <= 11000 := by
 unfold reprText
 show ((x.cps.foldl (fun out c => out ++ (Builtin.Str.reprChar (reprQuote x) c).toArray) #[reprQuote x]).push (reprQuote x)).size <= _
 rw [Array.size_push, <- Array.foldl_toList]
 have := PySem.StrLaws.foldl_repr_len (reprQuote x) x.cps.toList #[reprQuote x] (fun c hc => by have := h.2 c hc; omega)
 have e1 : (#[reprQuote x] : Array Nat).size = 1 := rfl
 have hl : x.cps.toList.length <= 1000 := by rw [Array.length_toList]; exact h.1
 omega
def rFsR : V -> Hp -> VK -> Prop := fun v H Q => ∃ x, v = .str x /\ NmT x /\ ∀ z, Q (.str z) H
def tFsR (te : TE) : TE := fun σ H Q => te σ H fun v H1 => rFsR v H1 Q
section
variable {X : Cx} {e : Expr} {te : TE} {y y2 : Str} {k k2 : Nat} {p1 p2 p3 pos : Pos}
theorem piece_r {acc : Str} {Q : Value -> Shared -> Prop} {R : List (Sem Value)} {pins : List (Addr × Obj)} {s : Shared} {σ : St} {H : Hp} {QV : VK} (he : PE X e te) (I : Inv X pins σ H s) (hacc : acc.length <= 1000) (h : te σ H fun v H1 => rFsR v H1 QV)
 (k : ∀ r H1 s1, r.length <= 11000 -> Inv X pins σ H1 s1 -> (∀ z, QV (.str z) H1) -> Joins (model X.prog X.w) X.A X.xe R (acc ++ r) (fun out s₁ => out.length <= sizeLine /\ Q (.str out s₁.toks) { s₁ with toks := s₁.toks + 1 }) s1) :
 Joins (model X.prog X.w) X.A X.xe (eval (.FormattedValue e 114 none p1) X.env :: R) acc (fun out s₁ => out.length <= sizeLine /\ Q (.str out s₁.toks) { s₁ with toks := s₁.toks + 1 }) s := by
 show wpAny _ _ (eval (.FormattedValue e 114 none p1) X.env) _ _ s
 refine PySem.wpAny_FormattedValue_repr (thn (he pins s σ H _ I h) fun v s1 ⟨w, H1, I1, r1, x, ex, hx, q⟩ => ?_)
 subst ex
 obtain ⟨t, rfl⟩ := r1
 have hr := repr_len hx
 have hsl : sizeLine = 16777216 := sizeLine_eq
 refine PySem.wpAny_pyReprObj_gives (T := "str") (typeIs_str _ _ _) F.slot_str_repr F.entry_str_repr (F.args_str_repr_1 _) (gives_str_repr x t) ?_ rfl (by omega)
 refine formatField_str (fun t' tk => ⟨reprText x, t', rfl, ?_, ?_⟩) (by omega)
 . rw [strLen_append]; omega
 . exact k _ _ _ hr ((I1.tok _).tok _) q
theorem pe_fsR1 (he : PE X e te) (hy : y.length <= 1000) : PE X (.JoinedStr [.FormattedValue e 114 none p1, .Constant (.str y) k p2] pos) (tFsR te) := by
 intro pins s σ H Q I h
 have hsl : sizeLine = 16777216 := sizeLine_eq
 refine wpAny_JoinedStr (piece_r he I (by decide) h fun r H1 s1 hr I1 q => ?_)
 show wpAny _ _ (eval (.Constant (.str y) k p2) X.env) _ _ _
 have e0 : (Str.empty ++ r).length = r.length := by rw [strLen_append]; show 0 + _ = _; omega
 refine Calls.Constant_str ⟨y, _, rfl, ?_, ?_, ?_⟩
 . rw [strLen_append, e0]; omega
 . rw [strLen_append, e0]; omega
 . exact ⟨.str _, H1, (I1.tok _).tok _, ⟨_, rfl⟩, q _⟩
theorem pe_fsR2 (he : PE X e te) (hy : y.length <= 1000) : PE X (.JoinedStr [.Constant (.str y) k p2, .FormattedValue e 114 none p1] pos) (tFsR te) := by
 intro pins s σ H Q I h
 have hsl : sizeLine = 16777216 := sizeLine_eq
 have e0 : (Str.empty ++ y).length = y.length := by rw [strLen_append]; show 0 + _ = _; omega
 refine wpAny_JoinedStr ?_
 show wpAny _ _ (eval (.Constant (.str y) k p2) X.env) _ _ _
 refine Calls.Constant_str ⟨y, _, rfl, by rw [e0]; omega, ?_⟩
 refine piece_r he (I.tok _) (by rw [e0]; exact hy) h fun r H1 s1 hr I1 q => ?_
 refine ⟨?_, .str _, H1, I1.tok _, ⟨_, rfl⟩, q _⟩
 rw [strLen_append, e0]; omega
end
section
variable {σ : St} {H : Hp} {Q : VK} {D : Ends} {K : PySem.W.Frag} {C : Addr} {E : St -> XK}
theorem r_callS {sp : Sp} {dvs : List V} {t : TA} (h : t σ H fun vs H1 => withD sp (vs ++ dvs) H1 Q (E σ)) : tCallS sp dvs E t σ H Q := h
theorem r_methS {m : Str} {sp : Sp} {dvs : List V} {ta : TE} {t : TA} (h : ta σ H fun x H1 => ∃ a dx fs, x = .ref a /\ H1 a = some (.ins C dx fs) /\ fs.lookup m = none /\ t σ H1 fun vs H2 => withD sp (x :: (vs ++ dvs)) H2 Q (E σ)) : tMethS C m sp dvs E ta t σ H Q := h
theorem r_makeS {sp : Sp} {dvs : List V} {t : TA} (h : t σ H fun vs H1 => MakeP C sp (vs ++ dvs) H1 Q (E σ)) : tMakeS C sp dvs E t σ H Q := h
theorem r_raiseN {ta : TA} (h : ta σ H fun vs H1 => ∃ n, vs = [.str n] /\ NmT n /\ ∀ d, H1 d = none -> E σ (.ref C) (some d) (upd H1 d (.xd [("name", .str n)]))) : tRaiseN C E ta D σ H := h
theorem r_raisedN {n : Str} {H1 : Hp} {G : Value -> Option Addr -> Hp -> Prop} (hn : NmT n) (h : ∀ d, H1 d = none -> G (.ref C) (some d) (upd H1 d (.xd [("name", .str n)]))) : ∃ m, [V.str n] = [.str m] /\ NmT m /\ ∀ d, H1 d = none -> G (.ref C) (some d) (upd H1 d (.xd [("name", .str m)])) := ⟨n, rfl, hn, h⟩
theorem r_raiseP {ta : TA} (h : ta σ H fun vs H1 => vs.length <= sizeLine /\ E σ (.ref C) none H1) : tRaiseP C E ta D σ H := h
theorem r_excInit {t : TA} (h : t σ H fun vs H1 => ExcInitP K vs H1 Q) : tExcInit K t σ H Q := h
theorem r_excInitP {a : Addr} {od : Option Addr} {y : V} (h1 : H a = some (.ext (isM a C od))) (h2 : ExcO K C) (h : Q .non H) : ExcInitP K [.ref a, y] H Q := ⟨a, C, od, [y], rfl, by simp, h1, h2, h⟩
theorem r_sfldX {ta tv : TE} (h : tv σ H fun y H1 => ta σ H1 fun x H2 => ∃ a C W fI, x = .ref a /\ H2 a = some (.ext (isM a C none)) /\ ExN K C W fI /\ ∀ d, H2 d = none -> d ≠ a -> D.nx σ (upd (upd H2 d (.xd [("name", y)])) a (.ext (isM a C (some d))))) : sFldX K ta tv D σ H := h
theorem r_fsR {te : TE} (h : te σ H fun v H1 => rFsR v H1 Q) : tFsR te σ H Q := h
theorem r_fsRS {x : Str} (hx : NmT x) (h : ∀ z, Q (.str z) H) : rFsR (.str x) H Q := ⟨x, rfl, hx, h⟩
end
theorem passND {X : Cx} : PassesS (CXD X.prog X.w) X (fun _ => E0) := fun _ _ _ _ _ _ _ ⟨_, _, _, _, _, _, _, _, _, _, _, _, _, _, _, h⟩ => h.elim
section
variable {prog : Program} {w : World} {A : Around} {R : Result -> Shared -> Prop} {I S : Addr} {fp wr : List Addr} {n : Nat} {P : Nat -> Value -> Prop} {St : Nat -> Heap -> Prop} {bt : Nat -> Nat -> Bool}
end
section
variable {prog : Program} {w : World} {A : Around} {E : Value -> Shared -> Prop} {s : Shared}
end
section
variable {X : Cx}
end
section
variable {σ : St} {H : Hp} {Q : VK} {D : Ends} {K : PySem.W.Frag}
def ForE (K : PySem.W.Frag) (vs : List V) (g : TG) (tb : TS) (D : Ends) (σ : St) (H1 : Hp) : Prop := ∃ a, vs = [.ref a] /\ (∃ xs, SqL K H1 a xs) /\ ∃ W : Nat -> Nat -> St -> Hp -> Prop, (∃ m, W 0 m σ H1) /\ ∀ i m σ H, W i m σ H ->
 ((Itn K a).stop i H /\ D.nx σ H) \/ ((Itn K a).go i H /\ ∃ N : St -> Hp -> Prop, (∀ σ' H', N σ' H' -> ∃ m', m' < m /\ W (i + 1) m' σ' H') /\ ∀ x H', (Itn K a).yld i H x H' -> g x σ H' fun σ2 H2 => tb { D with nx := N, ct := N, bk := D.nx } σ2 H2)
theorem r_forE {ta : TA} {g : TG} {tb : TS} (h : ta σ H fun vs H1 => ForE K vs g tb D σ H1) : tFor (iEnum K ta) g tb D σ H := h
theorem forEI {Hb : Hp} {v : V} {cs : List Int} {g : TG} {tb : TS} (hl : Dv Hb v (.list (cs.map PyData.int))) (Pv : Nat -> St -> Hp -> Prop) (h0 : Pv 0 σ H) (hk : ∀ i σ H', i <= cs.length -> Pv i σ H' -> ∀ a xs, v = .ref a -> SqL K Hb a xs -> SqL K H' a xs)
 (hs : ∀ i c t σ H', cs[i]? = some c -> Pv i σ H' -> H' t = none -> g (.ref t) σ (upd H' t (.tup [.int (i : Int), .int c])) fun σ2 H2 => tb { D with nx := Pv (i + 1), ct := Pv (i + 1), bk := D.nx } σ2 H2) (hd : ∀ σ H', Pv cs.length σ H' -> D.nx σ H') : ForE K [v] g tb D σ H := by
 obtain ⟨p, xs, rfl, e, dv⟩ := hl.lst_inv
 have hxl : xs.length = cs.length := by rw [dv.length, List.length_map]
 have at' : ∀ i σ H', i <= cs.length -> Pv i σ H' -> SqL K H' p xs := fun i σ H' hi hp => hk i σ H' hi hp p xs rfl (e K)
 refine ⟨p, rfl, ⟨xs, at' 0 σ H (Nat.zero_le _) h0⟩, fun i m σ H => i <= cs.length /\ m = cs.length - i /\ Pv i σ H, ⟨_, Nat.zero_le _, rfl, h0⟩, ?_⟩
 rintro i m σ H' ⟨hi, hm, hp⟩
 have hl' := at' i σ H' hi hp
 by_cases hc : i = cs.length
 . subst hc
   exact .inl ⟨⟨xs, hl', by omega⟩, hd σ H' hp⟩
 . have hlx : i < xs.length := by omega
   refine .inr ⟨⟨xs, xs[i], hl', List.getElem?_eq_getElem hlx⟩, Pv (i + 1), fun σ' H2 hp2 => ⟨cs.length - (i + 1), by omega, by omega, rfl, hp2⟩, fun x H2 hy => ?_⟩
   obtain ⟨t, x', hy, rfl, ht, rfl⟩ := hy
   have hx := hy xs hl'
   have hcs : cs[i]? = some cs[i] := List.getElem?_eq_getElem (by omega)
   obtain ⟨x2, hx2, hd⟩ := dv.get (i := i) (d := .int cs[i]) (by rw [List.getElem?_map, hcs]; rfl)
   rw [hx] at hx2
   cases hx2
   obtain rfl := hd.int_inv
   exact hs i cs[i] t σ H' hcs hp ht
end
theorem PS.nox {X : Cx} {st : Stmt} {t : TS} (h : PS X.nox st t) : PS X st t := fun pins s σ H D I hw =>
 wpAny_mono (h pins s σ H D (I.wish _) hw) (fun _ _ q => q.unwish) fun _ _ z => False.elim z
section
variable {σ : St} {H : Hp} {Q : VK} {K : PySem.W.Frag}
theorem r_lcRT {k : Nat} {ta : TA} {g : TG} {tc : TT} {te : TE} (h : ta σ H fun vs H1 => ∃ j : Int, vs = [.int j] /\ -(2 ^ 62) <= j /\ j < 2 ^ 62 /\ LCW k g tc te (LCFin Q) σ (Itr 0 j.toNat) H1) : tLC k (iRng1 ta) g tc te σ H Q := h
theorem r_appV {p : Addr} {xs : List V} {y : V} (e : H p = some (.lst xs)) (hl : xs.length <= 4000) (h : Q .non (upd H p (.lst (xs ++ [y])))) : rAppend (.ref p) [y] H Q := ⟨p, xs, y, rfl, rfl, e, smaller hl, h⟩
end
section
variable {X : Cx}
def insV {α : Type} (xs : List α) (k : Nat) (y : α) : List α := xs.take k ++ y :: xs.drop k
theorem insV_length {α : Type} (xs : List α) (k : Nat) (y : α) : (insV xs k y).length = xs.length + 1 := by
 unfold insV
 rw [List.length_append, List.length_cons, List.length_take, List.length_drop]
 omega
theorem Vals.ins {xs : List V} {us : List Value} {y : V} {u : Value} (r : Vals xs us) (ry : RelV y u) (k : Nat) : Vals (insV xs k y) (insV us k u) := (r.take k).append (.cons ry (r.drop k))
def rInsert : V -> List V -> Hp -> VK -> Prop := fun x vs H Q => ∃ l xs i y, x = .ref l /\ vs = [.int i, y] /\ H l = some (.lst xs) /\ 0 <= i /\ i <= xs.length /\ xs.length < sizeLine /\ Q .non (upd H l (.lst (insV xs i.toNat y)))
theorem mt_insert : MtM X "list.insert" rInsert := by
 intro pins s σ H x vs v us Q I rx rv h
 obtain ⟨l, xs, i, y, rfl, rfl, hH, h0, h1, hz, q⟩ := h
 cases rx
 cases rv with
 | cons ri rv =>
   obtain ⟨t, rfl⟩ := ri
   obtain ⟨u, rfl, ru⟩ := Vals.one rv
   obtain ⟨z, its, n, r, hl, e⟩ := I.lstM hH
   have hs2 : sizeLine <= 2 ^ 62 := by decide
   have hfit : Builtin.List.listFitsIndex i = true := fitsIndex_both (by omega) (by omega)
   refine call_meets F.slot_list_insert ⟨_, e, rfl⟩ F.entry_list_insert (F.args_list_insert_3 _ _ _) (AutoSeq1.list_insert_list_int_val_1 l its.toArray n i t u (by simp [hfit]) (by rw [List.size_toArray]; omega)) ⟨e, ?_⟩
   refine ⟨.non, _, I.lset (its' := insV its i.toNat u) hH e ?_ (r.ins ru i.toNat) ?_, rfl, q⟩
   . show (its.toArray.extract 0 (if i < 0 then (i + (its.toArray.size : Int)).toNat else min i.toNat its.toArray.size)).push u ++ its.toArray.extract (if i < 0 then (i + (its.toArray.size : Int)).toNat else min i.toNat its.toArray.size) = (insV its i.toNat u).toArray
     rw [kl_ins_eq, List.size_toArray, if_neg (by omega), Nat.min_eq_left (by omega)]
     rfl
   . rw [insV_length]; omega
end
section
open PySem.SeqAt
open PySem.AutoSeq1 (wpAny_loadPart')
open PySem.MeetsSeq PySem.MeetsSeq2 PySem.MeetsSeq3
theorem rcGt_int (A : Around) (s : Shared) (a : Int) (t : Tok) (c : Int) (u : Tok) (prog : Program) (w : World) (E : Value -> Shared -> Prop) (Q : Value -> Shared -> Prop) (h : Q (.bool (decide (a > c))) s) :
 wpAny (model prog w) A (richCompare .Gt (.int a t) (.int c u)) Q E s :=
 (PyProof.Rows.gt_int h : wpAny (model prog w) A (compareOp .Gt (.int a t) (.int c u)) Q E s)
theorem rcGt_str (A : Around) (s : Shared) (a : Str) (t : Tok) (c : Str) (u : Tok) (prog : Program) (w : World) (E : Value -> Shared -> Prop) (Q : Value -> Shared -> Prop) (h : Q (.bool (decide (c.cps.toList < a.cps.toList))) s) :
 wpAny (model prog w) A (richCompare .Gt (.str a t) (.str c u)) Q E s :=
 (PySem.P.gt_str h : wpAny (model prog w) A (compareOp .Gt (.str a t) (.str c u)) Q E s)
theorem tuple_gt_pair (l b : Addr) (n n2 : Nat) (dd dd2 : Option Addr) (sl sl2 : Array (Option Value)) (i j : Int) (t u t2 u2 : Tok) (c d : Str) :
 Meets (Builtin.«tuple.__gt__» ⟨[.ref l, .ref b], []⟩)
  (fun _ R s => s.heap.get? l = some { cls := .type "tuple", dict := dd, data := .seq #[.int i t, .str c t2] n, slots := sl } /\ s.heap.get? b = some { cls := .type "tuple", dict := dd2, data := .seq #[.int j u, .str d u2] n2, slots := sl2 } /\
   R (.ok (.ret (.bool (ltIS (j, d) (i, c))))) s) :=
 .of_wp fun prog w A R s h => by
  obtain ⟨hp, g, d0, tk, os⟩ := s; obtain ⟨hl, hb, h⟩ := h
  have f2 := AutoSeq1.sub_tuple_tuple
  wp_walk using wpAny_loadPart' hl, wpAny_loadPart' hb, wpAny_forIn_list _ (fun rest b s' => b.1 = none /\ s' = ⟨hp, g, d0, tk, os⟩ /\
   (rest = [(.int i t, .int j u), (.str c t2, .str d u2)] \/ (rest = [(.str c t2, .str d u2)] /\ i = j) \/ (rest = [] /\ i = j /\ c = d))) _
  case turn =>
   rintro ⟨y, x⟩ rest b s' ⟨hb', rfl, hr⟩
   rcases hr with hr | ⟨hr, e⟩ | ⟨hr, _⟩
   . injection hr with hyx hrest
     injection hyx with hy hx
     subst hy hx hrest
     have he := EqAt.int_int (A := A.in1) (s := ⟨hp, g, d0, tk, os⟩) i t j u
     refine wpAny_bind (he prog w _ _ ?_)
     by_cases e : i = j
     . rw [show (i == j) = true from beq_iff_eq.mpr e]
       wp_walk
       exact ⟨rfl, rfl, .inr (.inl ⟨rfl, e⟩)⟩
     . rw [show (i == j) = false from beq_eq_false_iff_ne.mpr e]
       have hri := rcGt_int A.in1 ⟨hp, g, d0, tk, os⟩ i t j u prog w
       have hv : ltIS (j, d) (i, c) = decide (i > j) := by
        unfold ltIS
        have : ¬ j = i := fun z => e z.symm
        simp [this]
       rw [hv] at h
       wp_walk using hri
       exact ⟨_, rfl, by simpa using h⟩
   . injection hr with hyx hrest
     injection hyx with hy hx
     subst hy hx hrest
     have he := EqAt.str_str (A := A.in1) (s := ⟨hp, g, d0, tk, os⟩) c t2 d u2
     refine wpAny_bind (he prog w _ _ ?_)
     by_cases e2 : c = d
     . rw [show (c == d) = true from beq_iff_eq.mpr e2]
       wp_walk
       exact ⟨rfl, rfl, .inr (.inr ⟨rfl, e, e2⟩)⟩
     . rw [show (c == d) = false from beq_eq_false_iff_ne.mpr e2]
       have hri := rcGt_str A.in1 ⟨hp, g, d0, tk, os⟩ c t2 d u2 prog w
       have hv : ltIS (j, d) (i, c) = decide (d.cps.toList < c.cps.toList) := by
        unfold ltIS ltS
        simp [e]
       rw [hv] at h
       wp_walk using hri
       exact ⟨_, rfl, by simpa using h⟩
   . cases hr
  case fin =>
   rintro ⟨b1, b2⟩ s' ⟨hb', rfl, hr⟩
   simp only at hb'
   subst hb'
   rcases hr with hr | ⟨hr, _⟩ | ⟨_, e, e2⟩
   . cases hr
   . cases hr
   . have hv : ltIS (j, d) (i, c) = false := by rw [e, e2]; exact ltIS_irr _
     rw [hv] at h
     wp_walk
     exact ⟨_, rfl, by simpa [Builtin.Tuple.tupleCompareSizes] using h⟩
  case h =>
   exact ⟨rfl, rfl, .inl rfl⟩
end
section
variable {X : Cx}
def rGtP (K : PySem.W.Frag) : R2 := fun x y H Q => ∃ a b i c j d, x = .ref a /\ y = .ref b /\ SqT K H a [.int i, .str c] /\ SqT K H b [.int j, .str d] /\ Q (.bl (ltIS (j, d) (i, c))) H
theorem op_gtP (hu : X.A.units < cLine) : OpR X (compareOp .Gt) (rGtP X.K) := by
 intro pins s σ H x y v u Q I rx ry h
 obtain ⟨a, b, i, c, j, d, rfl, rfl, ha, hb, q⟩ := h
 cases rx
 cases ry
 obtain ⟨its, r1, p1, _⟩ := I.tuple ha
 obtain ⟨its2, r2, p2, _⟩ := I.tuple hb
 cases r1 with
 | cons ri r1 =>
   obtain ⟨t, rfl⟩ := ri
   obtain ⟨_, rfl, t2, rfl⟩ := Vals.one r1
   cases r2 with
   | cons rj r2 =>
     obtain ⟨t', rfl⟩ := rj
     obtain ⟨_, rfl, t2', rfl⟩ := Vals.one r2
     obtain ⟨⟨cls, dd, data, sl⟩, ho, hc, n, hd⟩ := id p1
     obtain ⟨⟨cls2, dd2, data2, sl2⟩, ho2, hc2, n2, hd2⟩ := id p2
     simp only at hc hd hc2 hd2
     subst hc hd hc2 hd2
     exact richCompare_meets_room (op := .Gt) ⟨_, ho, rfl⟩ ⟨_, ho2, rfl⟩ PySem.F.slot_tuple_gt PySem.F.entry_tuple_gt (PySem.F.args_tuple_gt_2 _ _) (tuple_gt_pair a b n n2 dd dd2 sl sl2 i j t t' t2 t2' c d)
      ⟨ho, ho2, show Value.bool (ltIS (j, d) (i, c)) ≠ Value.notImplemented /\ (EP X pins σ Q) (.bool (ltIS (j, d) (i, c))) s from ⟨(fun x => nomatch x), ⟨.bl _, H, I, rfl, q⟩⟩⟩ hu
end
section
variable {σ : St} {H : Hp} {Q : VK} {D : Ends} {K : PySem.W.Frag}
theorem dv_pair {v : V} {k : Int × Str} (h : Dv H v (pairD k)) : ∃ a, v = .ref a /\ H a = some (.tup [.int k.1, .str k.2]) := by
 unfold pairD at h
 cases h with
 | tup ha r =>
   cases r with
   | cons h1 r =>
     cases r with
     | cons h2 r =>
       cases r
       cases h1; cases h2
       exact ⟨_, rfl, ha⟩
theorem r_gtP {x y : V} {k j : Int × Str} (h1 : Dv H x (pairD k)) (h2 : Dv H y (pairD j)) (h : Q (.bl (ltIS j k)) H) : rGtP K x y H Q := by
 obtain ⟨a, rfl, ha⟩ := dv_pair h1
 obtain ⟨b, rfl, hb⟩ := dv_pair h2
 exact ⟨a, b, k.1, k.2, j.1, j.2, rfl, rfl, .of ha, .of hb, h⟩
theorem r_insP {p : Addr} {ks : List (Int × Str)} {y : V} {k : Int × Str} {i : Int} (hp : LAt H p (ks.map pairD)) (hy : Dv H y (pairD k)) (h0 : 0 <= i) (h1 : i <= ks.length) (hl : ks.length <= 4000) (h : ∀ H2, Mv [p] H H2 -> LAt H2 p ((insV ks i.toNat k).map pairD) -> Q .non H2) : rInsert (.ref p) [.int i, y] H Q := by
 obtain ⟨xs, e, dv, im⟩ := hp
 have hxl : xs.length = ks.length := by rw [dv.length, List.length_map]
 have m : Mv [p] H (upd H p (.lst (insV xs i.toNat y))) := .of_upd e (by intro _ z; cases z)
 have e2 : (insV ks i.toNat k).map pairD = (ks.map pairD).take i.toNat ++ pairD k :: (ks.map pairD).drop i.toNat := by
  unfold insV
  rw [List.map_append, List.map_cons, List.map_take, List.map_drop]
 refine ⟨p, xs, i, y, rfl, rfl, e, h0, by omega, by rw [hxl]; exact smaller hl, h _ m ⟨_, upd_same, m.dats (immAll_map (fun _ => rfl) _) ?_, immAll_map (fun _ => rfl) _⟩⟩
 rw [e2]
 exact Dvs.append (dv.take i.toNat) (.cons hy (dv.drop i.toNat))
theorem forEV {p : Addr} {xs : List V} {g : TG} {tb : TS} (Pv : Nat -> St -> Hp -> Prop) (h0 : Pv 0 σ H) (hk : ∀ i σ H', i <= xs.length -> Pv i σ H' -> H' p = some (.lst xs))
 (hs : ∀ i x t σ H', xs[i]? = some x -> Pv i σ H' -> H' t = none -> g (.ref t) σ (upd H' t (.tup [.int (i : Int), x])) fun σ2 H2 => tb { D with nx := Pv (i + 1), ct := Pv (i + 1), bk := D.nx } σ2 H2) (hd : ∀ σ H', Pv xs.length σ H' -> D.nx σ H') : ForE K [.ref p] g tb D σ H := by
 have at' : ∀ i σ H', i <= xs.length -> Pv i σ H' -> SqL K H' p xs := fun i σ H' hi hp => .of (hk i σ H' hi hp)
 refine ⟨p, rfl, ⟨xs, at' 0 σ H (Nat.zero_le _) h0⟩, fun i m σ H => i <= xs.length /\ m = xs.length - i /\ Pv i σ H, ⟨_, Nat.zero_le _, rfl, h0⟩, ?_⟩
 rintro i m σ H' ⟨hi, hm, hp⟩
 have hl' := at' i σ H' hi hp
 by_cases hc : i = xs.length
 . subst hc
   exact .inl ⟨⟨xs, hl', by omega⟩, hd σ H' hp⟩
 . have hlx : i < xs.length := by omega
   refine .inr ⟨⟨xs, xs[i], hl', List.getElem?_eq_getElem hlx⟩, Pv (i + 1), fun σ' H2 hp2 => ⟨xs.length - (i + 1), by omega, by omega, rfl, hp2⟩, fun x H2 hy => ?_⟩
   obtain ⟨t, x', hy, rfl, ht, rfl⟩ := hy
   have hx := hy xs hl'
   exact hs i x' t σ H' hx hp ht
theorem r_lcRP {k n : Nat} {g : TG} {tc : TT} {te : TE} (Pd : Nat -> PyData -> Prop) (hlen : n <= 4000) (hi : ∀ i d, Pd i d -> Imm d = true)
 (turn : ∀ i H' (N : Option V -> Hp -> Prop), i < n -> Same H H' -> (∀ y d H4, Same H' H4 -> Pd i d -> Dv H4 y d -> N (some y) H4) ->
  g (.int (i : Int)) (List.replicate k none ++ σ) H' fun σ2 H2 => tc σ2 H2 fun b H3 => LCT te N σ2 b H3)
 (kk : ∀ q H' ds, Same H H' -> H q = none -> LAt H' q ds -> ds.length = n -> (∀ i d, ds[i]? = some d -> Pd i d) -> Q (.ref q) H') : LCW k g tc te (LCFin Q) σ (Itr 0 n) H := by
 refine ⟨fun i m acc H' => i <= n /\ m = n - i /\ Same H H' /\ ∃ ds, Dvs H' acc ds /\ ds.length = i /\ ∀ j d, ds[j]? = some d -> Pd j d, ⟨n, Nat.zero_le _, rfl, Same.refl _, [], .nil, rfl, fun j d h => by simp at h⟩, ?_⟩
 rintro i m acc H' ⟨hi1, hm, sm, ds, hacc, hdl, hpd⟩
 have hal : acc.length = i := by rw [hacc.length, hdl]
 have himm : ImmAll ds = true := immAll_iff.mpr fun d hd => by
  obtain ⟨j, hj⟩ := List.getElem?_of_mem hd
  exact hi j d (hpd j d hj)
 by_cases hc : i = n
 . subst hc
   refine .inl ⟨Nat.le_refl _, fun q hq => ?_⟩
   exact kk q _ ds (sm.trans (same_upd hq)) (sm.none hq) ⟨acc, upd_same, hacc.keeps (same_upd hq), himm⟩ hdl hpd
 . refine .inr ⟨by show i < n; omega, smaller (by omega), fun x H2 hy => ?_⟩
   obtain ⟨rfl, rfl⟩ := hy
   rw [Int.zero_add]
   refine turn i H2 (fun o H4 => match o with | some y => ∃ m', m' < m /\ i + 1 <= n /\ m' = n - (i + 1) /\ Same H H4 /\ ∃ ds, Dvs H4 (acc ++ [y]) ds /\ ds.length = i + 1 /\ ∀ j d, ds[j]? = some d -> Pd j d | none => ∃ m', m' < m /\ i + 1 <= n /\ m' = n - (i + 1) /\ Same H H4 /\ ∃ ds, Dvs H4 acc ds /\ ds.length = i + 1 /\ ∀ j d, ds[j]? = some d -> Pd j d) (by omega) sm fun y d H4 s4 hp d4 => ?_
   refine ⟨n - (i + 1), by omega, by omega, rfl, sm.trans s4, ds ++ [d], Dvs.append (hacc.keeps s4) (.cons d4 .nil), by simp [hdl], fun j e he => ?_⟩
   rw [List.getElem?_append] at he
   split at he
   . exact hpd j e he
   . rename_i hj
     by_cases e0 : j = ds.length
     . rw [e0] at he
       have : d = e := by simpa using he
       rw [e0, hdl]; exact this ▸ hp
     . rw [List.getElem?_eq_none (by simp; omega)] at he; cases he
theorem same_mv {S : List Addr} {H0 H1 H2 : Hp} (s : Same H0 H1) (m : Mv S H1 H2) (h : ∀ b ∈ S, H0 b = none) : Same H0 H2 := fun b u e => m.kp b u (fun z => by rw [h b z] at e; cases e) (s b u e)
end
section
variable {X : Cx}
def rBitLen : V -> List V -> Hp -> VK -> Prop := fun x vs H Q => ∃ i : Int, x = .int i /\ vs = [] /\ Q (.int (Builtin.Int.intBits i : Nat)) H
theorem mt_bitlen : MtR X "int.bit_length" rBitLen := by
 intro pins s σ H x vs v us Q I rx rv h
 obtain ⟨i, rfl, rfl, q⟩ := h
 obtain ⟨t, rfl⟩ := rx
 have hus := rv.zero
 subst hus
 exact call_gives F.slot_int_bit_length (typeIs_int _ _ _) F.entry_int_bit_length (F.args_int_bit_length_1 _) (AutoIntG2.int_bit_length_int_0 i t) ⟨.int _, H, I.tok _, ⟨_, rfl⟩, q⟩
end
theorem bitAnd_nat {x y : Int} (hx : 0 <= x) (hy : 0 <= y) : Builtin.bitAnd x y = ((x.toNat &&& y.toNat : Nat) : Int) := by
 unfold Builtin.bitAnd
 rw [decide_eq_true hx, decide_eq_true hy]
theorem bitOr_nat {x y : Int} (hx : 0 <= x) (hy : 0 <= y) : Builtin.bitOr x y = ((x.toNat ||| y.toNat : Nat) : Int) := by
 have e : ∀ z : Int, Builtin.bitNot (Builtin.bitNot z) = z := fun z => by unfold Builtin.bitNot; omega
 have n1 : ¬ 0 <= Builtin.bitNot x := by unfold Builtin.bitNot; omega
 have n2 : ¬ 0 <= Builtin.bitNot y := by unfold Builtin.bitNot; omega
 unfold Builtin.bitOr Builtin.bitAnd
 rw [decide_eq_false n1, decide_eq_false n2]
 simp only [e]
theorem testBit_sub {x s j : Nat} (hb : x.testBit s = true) : (x - 2 ^ s).testBit j = (x.testBit j && decide (j ≠ s)) := by
 have hp : 0 < 2 ^ s := Nat.two_pow_pos s
 have hl : x % 2 ^ s < 2 ^ (s + 1) := Nat.lt_of_lt_of_le (Nat.mod_lt _ hp) (Nat.pow_le_pow_right (by decide) (by omega))
 have hx : x = 2 ^ (s + 1) * (x / 2 ^ (s + 1)) + (2 ^ s + x % 2 ^ s) := by
  have h1 := Nat.div_add_mod x (2 ^ s)
  have h2 := Nat.div_add_mod (x / 2 ^ s) 2
  have h3 : x / 2 ^ s % 2 = 1 := by
   rw [Nat.testBit_eq_decide_div_mod_eq] at hb
   exact of_decide_eq_true hb
  have h4 : x / 2 ^ s / 2 = x / 2 ^ (s + 1) := by rw [Nat.div_div_eq_div_mul, Nat.pow_succ]
  have e : 2 ^ (s + 1) * (x / 2 ^ (s + 1)) = 2 ^ s * (2 * (x / 2 ^ (s + 1))) := by rw [Nat.pow_succ, Nat.mul_assoc]
  rw [e]
  rw [h3, h4] at h2
  have h5 : 2 ^ s * (x / 2 ^ s) = 2 ^ s * (2 * (x / 2 ^ (s + 1))) + 2 ^ s := by
   conv => lhs; rw [<- h2]
   rw [Nat.mul_add, Nat.mul_one]
  omega
 have hs : x - 2 ^ s = 2 ^ (s + 1) * (x / 2 ^ (s + 1)) + x % 2 ^ s := by omega
 rw [hs, Nat.testBit_two_pow_mul_add _ hl]
 split
 . rename_i hj
   rw [Nat.testBit_mod_two_pow]
   by_cases e : j = s
   . simp [e]
   . simp [e, show j < s from by omega]
 . rename_i hj
   rw [Nat.testBit_div_two_pow]
   rw [show j - (s + 1) + (s + 1) = j from by omega]
   simp [show j ≠ s from by omega]
theorem bitXor_pow {x : Int} {s : Nat} (hx : 0 <= x) (hb : x.toNat.testBit s = true) : Builtin.bitXor x (1 * 2 ^ s) = ((x.toNat - 2 ^ s : Nat) : Int) := by
 have hy : (0 : Int) <= 1 * 2 ^ s := by rw [Int.one_mul]; exact Int.le_of_lt (Int.pow_pos (by decide))
 have ey : (1 * 2 ^ s : Int).toNat = 2 ^ s := by
  rw [Int.one_mul]
  have : (2 : Int) ^ s = ((2 ^ s : Nat) : Int) := by norm_cast
  rw [this]; rfl
 have e1 : x.toNat ||| 2 ^ s = x.toNat := by
  apply Nat.eq_of_testBit_eq
  intro i
  rw [Nat.testBit_or, Nat.testBit_two_pow]
  by_cases c : s = i
  . subst c; rw [hb]; rfl
  . simp [c]
 have e2 : x.toNat &&& 2 ^ s = 2 ^ s := by
  apply Nat.eq_of_testBit_eq
  intro i
  rw [Nat.testBit_and, Nat.testBit_two_pow]
  by_cases c : s = i
  . subst c; rw [hb]; simp
  . simp [c]
 unfold Builtin.bitXor
 rw [bitOr_nat hx hy, bitAnd_nat hx hy, ey, e1, e2]
 have hle : 2 ^ s <= x.toNat := Nat.ge_two_pow_of_testBit hb
 omega
theorem pow_toNat (s : Nat) : (1 * 2 ^ s : Int).toNat = 2 ^ s := by
 rw [Int.one_mul]
 have : (2 : Int) ^ s = ((2 ^ s : Nat) : Int) := by norm_cast
 rw [this]; rfl
theorem testBit_log {x : Nat} (h : 0 < x) : x.testBit x.log2 = true := by
 rw [Nat.testBit_eq_decide_div_mod_eq]
 have h1 : 2 ^ x.log2 <= x := Nat.log2_self_le (by omega)
 have h2 : x < 2 ^ (x.log2 + 1) := Nat.lt_log2_self
 have h3 : x / 2 ^ x.log2 = 1 := by
  apply Nat.div_eq_of_lt_le
  . omega
  . rw [Nat.pow_succ] at h2; omega
 rw [h3]; rfl
section
variable {X : Cx}
end
section
variable {σ : St} {H : Hp} {Q : VK}
end
section
variable {X : Cx} {pins : List (Addr × Obj)} {σ : St} {H : Hp} {s : Shared} {h' : Heap} {f : Addr -> Option HO}
def layAll (f : Addr -> Option HO) (H : Hp) : Hp := fun b => match f b with | some o => some o | none => H b
theorem layAll_new {b : Addr} {o : HO} (h : f b = some o) : layAll f H b = some o := by unfold layAll; rw [h]
theorem layAll_old {b : Addr} (h : f b = none) : layAll f H b = H b := by unfold layAll; rw [h]
theorem layAll_same (hn : ∀ b o, f b = some o -> H b = none) : Same H (layAll f H) := fun b o e => by
 cases hfb : f b with
 | none => rw [layAll_old hfb]; exact e
 | some u => rw [hn b u hfb] at e; cases e
theorem Inv.many {t' : Nat} (I : Inv X pins σ H s) (k : ∀ b u, s.heap.get? b = some u -> h'.get? b = some u) (hf : ∀ b o, f b = some o -> s.heap.objs.size <= b)
 (new : ∀ b o, f b = some o -> ObjOk X.prog X.w (layAll f H) h' b o) : Inv X pins σ (layAll f H) { s with heap := h', toks := t' } := by
 have sm : Same H (layAll f H) := layAll_same fun b o e => I.hok.fresh (hf b o e)
 refine I.un ⟨fun b u q _ _ _ => k b u q, fun b u q _ _ _ => ⟨u.slots, k b u q⟩, fun b u q n _ => ?_, fun b u q _ => ⟨u, k b u q⟩, fun b xs q => sm _ _ q, fun b u xs q => sm _ _ q, fun b ps q => ⟨#[], by rw [sm _ _ q]; simp⟩⟩ fun b o e => ?_
 . cases hfb : f b with
   | none => rw [layAll_old hfb]; exact n
   | some u => exact absurd (Heap.lt_size q) (Nat.not_lt.mpr (hf b u hfb))
 . cases hfb : f b with
   | some u =>
     rw [layAll_new hfb] at e; cases e
     exact new b _ hfb
   | none =>
     rw [layAll_old hfb] at e
     exact (I.hok b o e).stay (fun c v _ q => k c v q) (fun c q => sm _ _ q) fun c xs q => sm _ _ q
end
theorem lk_mem {b : Addr} {o : HO} : ∀ {l : List (Addr × HO)}, l.lookup b = some o -> (b, o) ∈ l
 | [], h => by cases h
 | (a, u) :: l, h => by
   rw [List.lookup_cons] at h
   cases c : b == a with
   | true =>
     rw [c] at h
     have h : some u = some o := h
     cases h
     rw [show b = a from by simpa using c]; exact .head _
   | false => rw [c] at h; exact .tail _ (lk_mem h)
def tupsOf (as : List Addr) (kvs : List (Key × V)) : List (Addr × HO) := (as.zip kvs).map fun c => (c.1, HO.tup [kV c.2.1, c.2.2])
theorem lk_tups : ∀ {as : List Addr} {kvs : List (Key × V)}, as.Pairwise (· < ·) -> ∀ {j : Nat} {a : Addr} {c : Key × V}, as[j]? = some a -> kvs[j]? = some c -> (tupsOf as kvs).lookup a = some (.tup [kV c.1, c.2])
 | [], _, _, j, a, c, h, _ => by simp at h
 | _ :: _, [], _, j, a, c, _, h => by simp at h
 | x :: as, y :: kvs, hp, j, a, c, h1, h2 => by
   show List.lookup a ((x, HO.tup [kV y.1, y.2]) :: tupsOf as kvs) = _
   rw [List.lookup_cons]
   cases j with
   | zero =>
     obtain rfl : x = a := by simpa using h1
     obtain rfl : y = c := by simpa using h2
     simp
   | succ j =>
     have h1 : as[j]? = some a := by simpa using h1
     have h2 : kvs[j]? = some c := by simpa using h2
     have hx : x < a := (List.pairwise_cons.mp hp).1 a (List.mem_of_getElem? h1)
     have e : (a == x) = false := by simpa using (Nat.ne_of_gt hx)
     rw [e]
     exact lk_tups (List.pairwise_cons.mp hp).2 h1 h2
theorem vals_refs : ∀ as : List Addr, Vals (as.map V.ref) (as.map Value.ref)
 | [] => .nil
 | _ :: as => .cons rfl (vals_refs as)
def itemD (c : Str × PyData) : PyData := .tuple [.str c.1, c.2]
theorem DKs.items {H H' : Hp} (sm : Same H H') {g : Addr -> Option HO} : ∀ {kvs : List (Key × V)} {m : List (Str × PyData)}, DKs H kvs m -> ∀ {as : List Addr}, as.length = kvs.length -> (∀ (j : Nat) (a : Addr) (c : Key × V), as[j]? = some a -> kvs[j]? = some c -> H' a = some (.tup [kV c.1, c.2])) ->
 Dvs H' (as.map V.ref) (m.map itemD) /\ ImmAll (m.map itemD) = true
 | _, _, .nil, as, hl, _ => by
   cases as with
   | nil => exact ⟨.nil, rfl⟩
   | cons => simp at hl
 | _, _, .cons (k := k) (d := d) hv hi r, as, hl, hh => by
   cases as with
   | nil => simp at hl
   | cons a as =>
     obtain ⟨h1, h2⟩ := DKs.items sm (g := g) r (as := as) (by simpa using hl) fun j b c e1 e2 => hh (j + 1) b c (by simpa using e1) (by simpa using e2)
     refine ⟨.cons (.tup (hh 0 a _ rfl rfl) (.cons (.str k) (.cons (hv.keeps sm) .nil))) h1, ?_⟩
     show (Imm (itemD (k, d)) && ImmAll _) = true
     rw [h2]
     simp [itemD, Imm, ImmAll, hi]
section
variable {X : Cx}
def rListI : V -> Hp -> VK -> Prop := fun x H Q => ∃ (p : Addr) (m : List (Str × PyData)), x = .ref p /\ DAt H p m /\ ∀ q H', Same H H' -> H q = none -> LAt H' q (m.map itemD) -> Q (.ref q) H'
def tListI (te : TE) : TE := fun σ H Q => te σ H fun x H1 => rListI x H1 Q
theorem pe_listI {e : Expr} {te : TE} {p pos apos cpos : Pos} (he : PE X e te) (hc : X.calm = true) (hg : Gl X "list") (hm : X.mg "list" = none)
 (hbase : attributeBase e "items" X.env (eval e X.env) = eval e X.env := by rfl) (hline : (apos.endLine == cpos.line) = true := by rfl)
 (h2 : starEach [.Call (.Attribute e "items" apos) [] [] cpos] X.env = (false, eval (.Call (.Attribute e "items" apos) [] [] cpos) X.env) :: starEach [] X.env := by rfl) :
 PE X (.Call (.Name "list" p) [.Call (.Attribute e "items" apos) [] [] cpos] [] pos) (tListI te) := by
 intro pins s σ H Q I h
 refine wpAny_Call_Name_kw (ld_blt I hg hm PyProof.Rows.boot_list ?_ (by decide) (by decide))
 refine PyProof.Rows.callWith_type1 ?_ h2 rfl
 rw [h2]
 show wpAny _ _ (spliced ((false, eval (.Call (.Attribute e "items" apos) [] [] cpos) X.env) :: backTo pos (starEach [] X.env))) _ _ s
 refine Calls.spliced_cons (wpAny_Call_method0_late hbase hline (thn (he pins s σ H _ I h) fun v s1 ⟨y, H1, I1, r1, q1⟩ => ?_))
 obtain ⟨d, m, rfl, ⟨kvs, hd, dk⟩, q⟩ := q1
 obtain ⟨h1, h2⟩ := tyV_is I1 (T := "dict") r1 (.inr (.inr (.inl ⟨rfl, .inl ⟨kvs, hd⟩⟩)))
 cases r1
 refine ⟨"dict", "dict.items", PySem.F.plainAttrs_dict, PySem.F.slot_dict_items, PySem.F.type_dict_items, h1, h2, Calls.callWith_builtin rfl (PySem.evalArgs_none ?_)⟩
 obtain ⟨hz, hs, vs, kv, o, es, ep, ho, a2, a3, a4⟩ := (show ObjOk X.prog X.w H1 s1.heap d (.dK kvs) from I1.hok d _ hd)
 have da : s1.heap.DictAt (mixKind X.prog X.w) d vs ep := ⟨o, es, ho, a2, a3, a4⟩
 have hlen : vs.length = kvs.length := kv.length.symm
 refine call_meetsIn PySem.F.slot_dict_items da.dictOf.typeIs PySem.F.entry_dict_items (PySem.F.args_dict_items_1 _) (meets_dict_items (mixKind X.prog X.w) d hs) ⟨⟨vs, da.dictOf⟩, ?_⟩
 refine Calls.spliced_nil ?_
 have I2 : Inv X pins σ H1 { s1 with heap := s1.heap.push { cls := .type "dict_items", data := .fields #[.ref d] } } := I1.kept (t' := s1.toks) fun b u e => Heap.get?_push_of_some _ e
 refine kdx_call (knd := mixKind X.prog X.w) (kvs := vs) (ep := ep) (r := s1.heap.objs.size) (d := d) (I1.ok.hd hc) ⟨_, Heap.get?_push_size _ rfl, rfl, rfl⟩ (da.push _) (by rw [hlen]; exact hz) fun h' tk acc c as hk hS hl hG hacc => ?_
 generalize hh1 : s1.heap.push { cls := .type "dict_items", data := .fields #[.ref d] } = h1' at *
 have hal : as.length = kvs.length := hl.trans hlen
 have ab : ∀ a ∈ as, h1'.objs.size < a := hG.above
 let f : Addr -> Option HO := fun b => ((h1'.objs.size, HO.lst (as.map V.ref)) :: tupsOf as kvs).lookup b
 have fS : f h1'.objs.size = some (.lst (as.map V.ref)) := by
  show List.lookup _ (_ :: _) = _
  rw [List.lookup_cons]; simp
 have fT : ∀ (j : Nat) (a : Addr) (c : Key × V), as[j]? = some a -> kvs[j]? = some c -> f a = some (.tup [kV c.1, c.2]) := fun j a c e1 e2 => by
  show List.lookup _ (_ :: _) = _
  rw [List.lookup_cons, show (a == h1'.objs.size) = false from by simpa using Nat.ne_of_gt (ab a (List.mem_of_getElem? e1))]
  exact lk_tups hG.rise e1 e2
 have fm : ∀ b u, f b = some u -> (b = h1'.objs.size /\ u = .lst (as.map V.ref)) \/ ∃ (j : Nat) (c : Key × V), as[j]? = some b /\ kvs[j]? = some c /\ u = .tup [kV c.1, c.2] := fun b u e => by
  rcases List.mem_cons.mp (lk_mem e) with z | z
  . cases z; exact .inl ⟨rfl, rfl⟩
  . obtain ⟨⟨a, c⟩, hz, e⟩ := List.mem_map.mp z
    cases e
    obtain ⟨j, hj⟩ := List.mem_iff_getElem?.mp hz
    obtain ⟨e1, e2⟩ := List.getElem?_zip_eq_some.mp hj
    exact .inr ⟨j, c, e1, e2, rfl⟩
 have hf : ∀ b u, f b = some u -> h1'.objs.size <= b := fun b u e => by
  rcases fm b u e with ⟨rfl, _⟩ | ⟨j, c, e1, _⟩
  . exact Nat.le_refl _
  . exact Nat.le_of_lt (ab b (List.mem_of_getElem? e1))
 have sm : Same H1 (layAll f H1) := layAll_same fun b u e => I2.hok.fresh (hf b u e)
 obtain ⟨dv, im⟩ := dk.items sm (g := f) hal fun j a c e1 e2 => layAll_new (fT j a c e1 e2)
 refine ⟨.ref h1'.objs.size, layAll f H1, I2.many (s := { s1 with heap := h1' }) (t' := tk) hk hf fun b u e => ?_, rfl, q _ _ sm (I2.hok.fresh (Nat.le_refl _)) ⟨_, layAll_new fS, dv, im⟩⟩
 rcases fm b u e with ⟨rfl, rfl⟩ | ⟨j, c, e1, e2, rfl⟩
 . refine ⟨by rw [List.length_map, hal]; exact hz, as.map Value.ref, c, vals_refs as, ?_⟩
   rw [<- hacc]; simpa using hS
 . obtain ⟨key, k, x, f1, f2, f3⟩ := hG.pairs j b e1
   obtain ⟨y, hy, hy2⟩ := paired_get kv e2
   rw [f1] at hy
   cases hy
   exact ⟨by rw [sizeLine_eq]; simp, [key, x], .cons (by rw [hy2.1]; exact relV_key f2) (.cons hy2.2 .nil), _, f3, rfl, _, rfl⟩
end
section
variable {σ : St} {H : Hp} {Q : VK} {p : Addr} {m : List (Str × PyData)}
theorem r_listIT {te : TE} (h : te σ H fun x H1 => rListI x H1 Q) : tListI te σ H Q := h
theorem r_listI (hp : DAt H p m) (k : ∀ q H', Same H H' -> H q = none -> LAt H' q (m.map itemD) -> Q (.ref q) H') : rListI (.ref p) H Q := ⟨p, m, rfl, hp, k⟩
end
def calmSp (sp : Sp) : Sp := fun vs H Q _ => sp vs H Q fun _ _ _ => False
section
variable {P : Program} {w : World} {K : PySem.W.Frag} {mg : Str -> Option Value} {base : Heap} {k : Nat} {f : Addr} {fd : FuncData} {ps : List Str} {dvs : List V} {sp : Sp}
theorem FnOk.calm (F : FnOk P w K mg base (CXD P w) k f fd ps sp) : FnOk P w K mg base CX0 k f fd ps (calmSp sp) :=
 ⟨fun vs H Q _ h => F.len vs H Q _ h, fun A outer s H args us vs Q E hr he hb hv hs => codeAny_mono (F.run A outer s H args us vs Q _ hr he hb hv hs) fun r s' h => by
  cases r with
  | ok g => cases g <;> exact h
  | error e =>
    obtain ⟨_, _, _, _, _, _, _, _, _, _, _, _, _, _, _, z⟩ := h
    exact z⟩
theorem CalD.calm (c : CalD P w K mg base k f ps dvs sp) : Cal P w K mg base k f ps dvs (calmSp sp) :=
 let ⟨fd, ds, F, b, v⟩ := c.ex
 ⟨fd, ds, F.calm, b, v⟩
end
section
variable {X : Cx}
end
section
variable {σ : St} {H : Hp} {Q : VK}
end
section
variable {σ : St} {H : Hp} {Q : VK} {K : PySem.W.Frag}
theorem r_lcRG {k n : Nat} {g : TG} {tc : TT} {te : TE} (hlen : n <= 4000) (Pv : Nat -> List V -> Hp -> Prop) (h0 : Pv 0 [] H) (hk : ∀ i acc H', i <= n -> Pv i acc H' -> acc.length <= n)
 (turn : ∀ i acc H' (N : Option V -> Hp -> Prop), i < n -> Pv i acc H' -> (∀ y H4, Pv (i + 1) (acc ++ [y]) H4 -> N (some y) H4) -> (∀ H4, Pv (i + 1) acc H4 -> N none H4) ->
  g (.int (i : Int)) (List.replicate k none ++ σ) H' fun σ2 H2 => tc σ2 H2 fun b H3 => LCT te N σ2 b H3)
 (kk : ∀ acc H' q, Pv n acc H' -> H' q = none -> Q (.ref q) (upd H' q (.lst acc))) : LCW k g tc te (LCFin Q) σ (Itr 0 n) H := by
 refine ⟨fun i m acc H' => i <= n /\ m = n - i /\ Pv i acc H', ⟨n, Nat.zero_le _, rfl, h0⟩, ?_⟩
 rintro i m acc H' ⟨hi1, hm, hp⟩
 have hal := hk i acc H' hi1 hp
 by_cases hc : i = n
 . subst hc
   exact .inl ⟨Nat.le_refl _, fun q hq => kk acc H' q hp hq⟩
 . refine .inr ⟨by show i < n; omega, smaller (by omega), fun x H2 hy => ?_⟩
   obtain ⟨rfl, rfl⟩ := hy
   rw [Int.zero_add]
   exact turn i acc H2 (fun o H4 => match o with | some y => ∃ m', m' < m /\ i + 1 <= n /\ m' = n - (i + 1) /\ Pv (i + 1) (acc ++ [y]) H4 | none => ∃ m', m' < m /\ i + 1 <= n /\ m' = n - (i + 1) /\ Pv (i + 1) acc H4) (by omega) hp
    (fun y H4 h => ⟨n - (i + 1), by omega, by omega, rfl, h⟩) fun H4 h => ⟨n - (i + 1), by omega, by omega, rfl, h⟩
end
section
variable {X : Cx}
def rSortI : List V -> Hp -> VK -> Prop := fun xs H Q => ∃ (v : V) (ns : List Int), xs = [v] /\ Dv H v (.list (ns.map PyData.int)) /\ ns.length < 64 /\ ∀ (q : Addr) (H' : Hp) (ns' : List Int), Same H H' -> H q = none -> ns'.Perm ns -> ns'.Pairwise (· <= ·) -> LAt H' q (ns'.map PyData.int) -> Q (.ref q) H'
theorem vals_nums : ∀ {us : List Value} {ns : List Int}, IntsAre us ns -> Vals (ns.map V.int) us
 | _, _, .nil => .nil
 | _, _, .cons _ t r => .cons ⟨t, rfl⟩ (vals_nums r)
theorem call_sortI : CallR X (.builtin "sorted") rSortI := by
 intro pins s σ H xs us Q I r h
 obtain ⟨v, ns, rfl, hd, hl, q⟩ := h
 obtain ⟨u, rfl, ru⟩ := vals1 r
 obtain ⟨p, ys, rfl, e, dv⟩ := hd.lst_inv
 obtain ⟨its, rvs, pl, _⟩ := I.list (e X.K)
 cases ru
 have hI := ints_at dv rvs
 refine sorted_ints pl.isList hI (by rw [<- rvs.length, dv.length, List.length_map]; exact hl) fun out ns' h1 h2 h3 => ?_
 obtain ⟨ep, he⟩ := sortedAll_at s.heap its out
 have hq : H (s.heap.objs.size + 1) = none := I.hok.fresh (Nat.le_succ _)
 refine ⟨.ref (s.heap.objs.size + 1), upd H (s.heap.objs.size + 1) (.lst (ns'.map V.int)), I.laid (t' := s.toks) (fun b ob q => sortedAll_old q) (Nat.le_succ _) ?_, rfl, q _ _ ns' (same_upd hq) hq h2 h3 (lat_upd hq (dvs_ints ns') (immAll_map (fun _ => rfl) _))⟩
 exact ⟨by rw [List.length_map, h2.length_eq]; exact Nat.le_of_lt (smaller (by omega)), out.toList, ep, vals_nums h1, by simpa [seqObj] using he⟩
end
section
variable {H : Hp} {Q : VK}
theorem r_sortI {v : V} {ns : List Int} (hp : Dv H v (.list (ns.map PyData.int))) (hl : ns.length < 64) (h : ∀ (q : Addr) (H' : Hp) (ns' : List Int), Same H H' -> H q = none -> ns'.Perm ns -> ns'.Pairwise (· <= ·) -> LAt H' q (ns'.map PyData.int) -> Q (.ref q) H') : rSortI [v] H Q := ⟨v, ns, rfl, hp, hl, h⟩
end
end L2
set_option maxHeartbeats 4000000
namespace My
open PySem L2
local macro_rules | `(tactic| walk_at "same") => `(tactic| first
 | exact Same.refl _
 | assumption
 | (refine' Same.trans ?m ?s; (case s => assumption); (case m => walk_at "same")))
local macro_rules | `(tactic| walk_at "at") => `(tactic| first
 | assumption
 | exact upd_same
 | (refine' Same.at ?s ?m; (case s => assumption); (case m => walk_at "at")))
local macro_rules | `(tactic| walk_at "dat") => `(tactic| first
 | exact Dv.int _
 | exact Dv.non
 | exact Dv.bl _
 | exact Dv.str _
 | assumption
 | (refine' Dv.keeps ?s ?m; (case s => assumption); (case m => walk_at "dat")))
local macro_rules | `(tactic| walk_at "ins") => `(tactic| first
 | assumption
 | (refine' Ins.keeps ?s ?m; (case s => assumption); (case m => walk_at "ins")))
local macro_rules | `(tactic| walk_at "dats") => `(tactic| first
 | exact Dvs.nil
 | (refine' Dvs.cons ?m ?s; (case m => walk_at "dat"); (case s => walk_at "dats"))
 | assumption
 | (refine' Dvs.keeps ?s ?m; (case s => assumption); (case m => walk_at "dats")))
local macro_rules | `(tactic| walk_at "sql") => `(tactic| first
 | assumption
 | (refine' Same.seq ?s ?m; (case s => assumption); (case m => walk_at "sql")))
local macro_rules | `(tactic| walk_at "isq") => `(tactic| first
 | (refine' Or.inl ?m; case m => walk_at "dat")
 | (refine' Or.inr ?m; case m => walk_at "dat"))
set_option hygiene false in
local macro_rules | `(tactic| walk_at "side") => `(tactic| first
 | omega
 | assumption
 | exact (by decide)
 | exact cdivB (by omega) (by omega)
 | exact cmulB ⟨by omega, by omega⟩ ⟨by omega, by omega⟩
 | exact ⟨by decide, by decide, by decide⟩)
set_option hygiene false in
local macro_rules | `(tactic| walk_at "use") => `(tactic| fail)
set_option hygiene false in
local macro_rules | `(tactic| walk_at "lk") => `(tactic| fail)
set_option hygiene false in
local macro_rules | `(tactic| walk_at "put") => `(tactic| fail)
set_option hygiene false in
local macro_rules | `(tactic| walk_at "fin") => `(tactic| fail)
set_option hygiene false in
local macro_rules | `(tactic| walk_at "wds") => `(tactic| first
 | with_reducible refine r_wd (ws := [_]) rfl ?_
 | with_reducible refine r_wd (ws := [_, _]) rfl ?_
 | with_reducible refine r_wd (ws := [_, _, _]) rfl ?_
 | with_reducible refine r_wd (ws := [_, _, _, _]) rfl ?_
 | with_reducible refine r_wd (ws := [_, _, _, _, _]) rfl ?_
 | with_reducible refine r_wd (ws := [_, _, _, _, _, _]) rfl ?_
 | with_reducible refine r_wd (ws := []) rfl ?_)
set_option hygiene false in
local macro_rules | `(tactic| walk_at "mks") => `(tactic| first
 | fail)
local macro_rules | `(tactic| walk_at "br") => `(tactic| ((with_reducible refine if_bl (fun hb => ?_) (fun hb => ?_)) <;> (try simp only [id, decide_eq_true_eq, decide_eq_false_iff_not, Bool.not_eq_true', Bool.not_eq_false', Bool.not_true, Bool.not_false, V.int.injEq, Bool.true_eq_false, Bool.false_eq_true, reduceCtorEq, decide_true, decide_false, not_true, not_false_iff, PyData.eqv, PyData.eqvAll, Bool.and_eq_true, Bool.and_eq_false_iff, Bool.or_eq_true, Bool.or_eq_false_iff, beq_iff_eq, beq_eq_false_iff_ne, ne_eq, bne_iff_ne, Bool.and_true, Bool.and_false, Bool.and_self, beq_self_eq_true, isInt, isBool, isStr, isLst, isTup, isDct, List.length_cons, List.length_nil] at hb) <;> (try (exfalso; omega)) <;> (try (exfalso; (refine' ref_ne hb ?d); (case d => walk_at "dat")))))
local macro_rules | `(tactic| walk_at "rd1") => `(tactic| first
 | with_reducible refine r_cutS ?_
 | with_reducible refine r_asg ?_
 | with_reducible refine r_ret ?_
 | with_reducible refine r_drop ?_
 | with_reducible refine r_ifS ?_
 | ((with_reducible refine' r_var ?e ?_); case e => exact rfl)
 | with_reducible refine r_c ?_
 | with_reducible refine r_op ?_
 | with_reducible refine r_un ?_
 | with_reducible refine r_i0 ?_
 | ((with_reducible refine' r_powE ?e1 ?e2 ?_); (case e1 => exact ⟨by decide, by decide, by decide⟩); (case e2 => ((conv => lhs; simp only [Int.reduceToNat]) <;> exact rfl)))
 | ((with_reducible refine' r_i ?e ?_); case e => walk_at "side")
 | with_reducible refine r_u ?_
 | with_reducible refine r_cons ?_
 | with_reducible refine r_nil ?_
 | with_reducible refine r_callN ?_
 | with_reducible refine r_cb ?_
 | with_reducible refine r_test ?_
 | with_reducible refine r_and ?_
 | with_reducible refine r_or ?_
 | with_reducible refine r_not ?_
 | with_reducible refine r_andV ?_
 | with_reducible refine r_notV ?_
 | with_reducible refine r_bl ?_
 | with_reducible refine r_truB ?_
 | with_reducible refine if_true' ?_
 | with_reducible refine if_false' ?_
 | walk_at "br"
 | with_reducible refine r_next ?_
 | ((with_reducible refine' r_eqS ?e ?_); case e => exact rfl)
 | ((with_reducible refine' r_eqD ?e1 ?e2 ?e3 ?e4 ?e5 ?_); (case e1 => walk_at "dat"); (case e2 => walk_at "dat"); (case e3 => first | rfl | assumption); (case e4 => first | rfl | assumption); (case e5 => first | exact Nat.le_of_ble_eq_true rfl | assumption))
 | ((with_reducible refine' r_ixD ?e1 ?e2 ?_); (case e1 => walk_at "isq"); (case e2 => exact rfl))
 | ((with_reducible refine' r_lenK ?e ?_); case e => walk_at "isq")
 | ((with_reducible refine' r_lenL ?e ?_); case e => walk_at "sql")
 | with_reducible refine r_maxP (fun _ _ _ _ => ?_)
 | ((with_reducible refine' r_modP ?e (fun _ _ => ?_)); case e => walk_at "side")
 | with_reducible refine r_is ?_
 | with_reducible refine r_sfld ?_
 | ((with_reducible refine' r_sfldv ?e1 ?e2 ?e3 ?e4 ?e5 ?_); (case e1 => walk_at "at"); (case e2 => assumption); (case e3 => assumption); (case e4 => exact len1000 rfl); (case e5 => walk_at "put"))
 | ((with_reducible refine' r_fldI ?e1 ?e2 ?e3 ?e4 ?_); (case e1 => walk_at "ins"); (case e2 => assumption); (case e3 => assumption); (case e4 => walk_at "lk"))
 | ((with_reducible refine' r_fldA ?e1 ?e2 ?e3 ?e4 ?_); (case e1 => walk_at "at"); (case e2 => assumption); (case e3 => assumption); (case e4 => walk_at "lk"))
 | ((with_reducible refine' r_methI ?e1 ?e2 ?_); (case e1 => walk_at "ins"); (case e2 => walk_at "lk"))
 | ((with_reducible refine' r_isi_int ?e ?_); case e => walk_at "dat")
 | ((with_reducible refine' r_isi_bool ?e ?_); case e => walk_at "dat")
 | ((with_reducible refine' r_isi_lst ?e ?_); case e => walk_at "dat")
 | with_reducible refine got_int ?_
 | with_reducible refine got_str ?_
 | with_reducible refine got_tup (fun _ _ => ?_)
 | with_reducible refine r_tupD ?_
 | ((with_reducible refine' r_tupE ?e1 ?e2 (fun _ _ _ _ => ?_)); (case e1 => exact len64 rfl); (case e2 => walk_at "dats"))
 | with_reducible refine r_lstD ?_
 | with_reducible refine r_turn ?_
 | with_reducible refine r_for ?_
 | with_reducible refine r_forR1 ?_
 | ((with_reducible refine' r_rng1 ?e1 ?e2 ?_); (case e1 => omega); (case e2 => omega))
 | with_reducible refine r_fld ?_
 | with_reducible refine r_methN ?_
 | with_reducible refine r_makeN ?_
 | with_reducible refine got_any (fun _ _ => ?_)
 | walk_at "wds"
 | walk_at "mks"
 | walk_at "use"
 | walk_at "fin")
local macro_rules | `(tactic| walk_at "lat") => `(tactic| first
 | assumption
 | (refine' LAt.keeps ?s ?m; (case s => assumption); (case m => walk_at "lat"))
 | (refine' LAt.mv ?s ?n ?m; (case s => assumption); (case n => walk_at "nin"); (case m => walk_at "lat"))
 | fail)
local macro_rules | `(tactic| walk_at "nin") => `(tactic| first
 | (refine' notin1 ?n1; (case n1 => walk_at "ne"))
 | fail)
local macro_rules | `(tactic| walk_at "ne") => `(tactic| first
 | assumption
 | (refine Ne.symm ?_; assumption)
 | (refine' LAt.ne ?h ?n; (case n => assumption); (case h => walk_at "lat"))
 | (refine' Ne.symm (LAt.ne ?h ?n); (case n => assumption); (case h => walk_at "lat"))
 | fail)
local macro_rules | `(tactic| walk_at "dla") => `(tactic| first
 | assumption
 | (refine' DAt.keeps ?s ?m; (case s => assumption); (case m => walk_at "dla"))
 | (refine' DAt.mv ?s ?n ?m; (case s => assumption); (case n => walk_at "nin"); (case m => walk_at "dla"))
 | fail)
local macro_rules | `(tactic| walk_at "ne") => `(tactic| first
 | (refine' DAt.ne ?h ?n; (case n => assumption); (case h => walk_at "dla"))
 | (refine' Ne.symm (DAt.ne ?h ?n); (case n => assumption); (case h => walk_at "dla"))
 | fail)
local macro_rules | `(tactic| walk_at "imm") => `(tactic| first
 | rfl
 | assumption
 | exact immAll_map (fun _ => rfl) _
 | (refine' LAt.imm ?h; (case h => assumption))
 | fail)
set_option hygiene false in
local macro_rules | `(tactic| walk_at "dm") => `(tactic| first
 | exact fun _ h => h
 | fail)
set_option hygiene false in
local macro_rules | `(tactic| walk_at "none") => `(tactic| first
 | assumption
 | fail)
local macro_rules | `(tactic| walk_at "same") => `(tactic| first
 | (refine' Mv.sameN ?s ?m ?n; (case m => assumption); (case s => walk_at "same"); (case n => walk_at "none"))
 | fail)
local macro_rules | `(tactic| walk_at "mv") => `(tactic| first
 | exact Mv.refl
 | assumption
 | (refine' Mv.stepS ?m ?s; (case s => assumption); (case m => walk_at "mv"))
 | (refine' Mv.step ?m ?s ?h; (case s => assumption); (case m => walk_at "mv"); (case h => walk_at "ours"))
 | fail)
set_option hygiene false in
local macro_rules | `(tactic| walk_at "ours") => `(tactic| first
 | fail)
local macro_rules | `(tactic| walk_at "dat") => `(tactic| first
 | (refine' LAt.dv ?m; (case m => walk_at "lat"))
 | (refine' Mv.dat ?s ?i ?m; (case s => assumption); (case i => walk_at "imm"); (case m => walk_at "dat"))
 | fail)
local macro_rules | `(tactic| walk_at "dats") => `(tactic| first
 | (refine' Mv.dats ?s ?i ?m; (case s => assumption); (case i => walk_at "imm"); (case m => walk_at "dats"))
 | fail)
set_option hygiene false in
local macro_rules | `(tactic| walk_at "len") => `(tactic| first
 | (simp only [List.length_map, List.length_append, List.length_cons, List.length_nil]; omega)
 | omega
 | fail)
local macro_rules | `(tactic| walk_at "rd1") => `(tactic| first
 | with_reducible refine r_tB ?_
 | with_reducible refine r_chain ?_
 | with_reducible refine r_dnew (fun _ _ _ _ _ => ?_)
 | with_reducible refine r_dputT ?_
 | with_reducible refine r_dgetT ?_
 | with_reducible refine r_dinT ?_
 | with_reducible refine r_dninT ?_
 | ((with_reducible refine' r_dput ?e1 ?e2 ?e3 ?e4 (fun _ _ _ => ?_)); (case e1 => walk_at "dla"); (case e3 => walk_at "dat"); (case e2 => walk_at "len"); (case e4 => walk_at "imm"))
 | ((with_reducible refine' r_din ?e1 (fun _ _ => ?_)); (case e1 => walk_at "dla"))
 | ((with_reducible refine' r_dget ?e1 ?e2 ?_); (case e1 => walk_at "dla"); (case e2 => assumption))
 | with_reducible refine r_gname ?_
 | with_reducible refine r_bm ?_
 | with_reducible refine r_bm0 ?_
 | ((with_reducible refine' r_tyL ?e ?_); case e => walk_at "lat")
 | ((with_reducible refine' r_app ?e1 ?e2 ?e3 ?e4 (fun _ _ _ => ?_)); (case e1 => walk_at "lat"); (case e3 => walk_at "dat"); (case e2 => walk_at "len"); (case e4 => walk_at "imm"))
 | ((with_reducible refine' r_lstA ?e1 ?e2 ?e3 (fun _ _ _ _ _ => ?_)); (case e1 => exact len64 rfl); (case e2 => walk_at "dats"); (case e3 => exact rfl))
 | with_reducible refine r_sl ?_
 | with_reducible refine r_part ?_
 | with_reducible refine r_noPart ?_
 | with_reducible refine r_partI ?_
 | with_reducible refine r_lcT ?_
 | ((with_reducible refine' r_listOf ?e1 ?e2 (fun _ _ _ _ _ => ?_)); (case e1 => walk_at "dat"); (case e2 => walk_at "imm"))
 | ((with_reducible refine' r_truN ?e ?_); case e => walk_at "dat")
 | ((with_reducible refine' r_truX ?e ?e2 ?_); (case e => walk_at "dat"); (case e2 => simp))
 | ((with_reducible refine' r_truL ?e ?_); case e => walk_at "dat")
 | ((with_reducible refine' r_addS ?e ?_); case e => walk_at "len")
 | ((with_reducible refine' r_lenM ?e ?_); case e => walk_at "dat")
 | ((with_reducible refine' r_ixD ?e1 ?e2 ?_); (case e1 => walk_at "isq"); (case e2 => first | exact atI_lastM | (refine' atI_mapI ?a ?b; (case a => omega); (case b => walk_at "len")) | fail))
 | fail)
local macro_rules | `(tactic| walk_at "rd1") => `(tactic| first
 | ((with_reducible refine' r_cutT _ ?e1 (fun _ _ _ _ _ => ?_)); (case e1 => walk_at "lat"))
 | ((with_reducible refine' r_catL ?e1 ?e2 ?e3 (fun _ _ _ _ _ => ?_)); (case e1 => walk_at "lat"); (case e2 => walk_at "lat"); (case e3 => walk_at "len"))
 | fail)
set_option hygiene false in
local macro_rules | `(tactic| walk_at "rd1") => `(tactic| first
 | fail)
local macro_rules | `(tactic| walk_at "rd1") => `(tactic| first
 | with_reducible refine r_raised ?_
 | ((with_reducible refine' r_mulL ?e1 ?e2 ?e3 (fun _ _ _ => ?_)); (case e1 => exact rfl); (case e2 => omega); (case e3 => omega))
 | fail)
set_option hygiene false in
local macro_rules | `(tactic| walk_at "rd1") => `(tactic| first
 | fail)
set_option hygiene false in
local macro_rules | `(tactic| walk_at "rd1") => `(tactic| first
 | with_reducible refine r_minVT ?_
 | fail)
local macro_rules | `(tactic| walk_at "rd1") => `(tactic| first
 | with_reducible refine r_callS ?_
 | with_reducible refine r_methS ?_
 | with_reducible refine r_makeS ?_
 | with_reducible refine r_raiseN ?_
 | with_reducible refine r_raiseP ?_
 | with_reducible refine r_excInit ?_
 | with_reducible refine r_sfldX ?_
 | with_reducible refine r_fsR ?_
 | ((with_reducible refine' r_fsRS ?e (fun _ => ?_)); case e => assumption)
 | fail)
set_option hygiene false in
local macro_rules | `(tactic| walk_at "rd1") => `(tactic| first
 | with_reducible refine r_forE ?_
 | fail)
set_option hygiene false in
local macro_rules | `(tactic| walk_at "rd1") => `(tactic| first
 | with_reducible refine r_lcRT ?_
 | fail)
set_option hygiene false in
local macro_rules | `(tactic| walk_at "rd1") => `(tactic| first
 | fail)
set_option hygiene false in
local macro_rules | `(tactic| walk_at "rd1") => `(tactic| first
 | with_reducible refine r_listIT ?_
 | fail)
set_option hygiene false in
local macro_rules | `(tactic| walk_at "rd1") => `(tactic| first
 | fail)
def top (i : Nat) : Stmt := PySem.Challenge.pw_wakefew_k19_whole_far_jumps.main.body.getD i (.Pass ⟨0, 0, 0, 0⟩)
set_option hygiene false in
local macro_rules | `(tactic| walk_at "scp") => `(tactic| exact ⟨rfl, rfl, rfl, by decide +kernel, rfl, by decide +kernel, by decide +kernel⟩)
abbrev s_Twice___init__ : Stmt := inClass (top 5) 0
theorem sc_Twice___init__ : FnScope ["self", "name"] ["self", "name"] (defScope s_Twice___init__) := by walk_at "scp"
abbrev s_NoBell___init__ : Stmt := inClass (top 6) 0
theorem sc_NoBell___init__ : FnScope ["self", "name"] ["self", "name"] (defScope s_NoBell___init__) := by walk_at "scp"
abbrev s_Waits___init__ : Stmt := inClass (top 8) 0
theorem sc_Waits___init__ : FnScope ["self", "now"] ["self", "now"] (defScope s_Waits___init__) := by walk_at "scp"
abbrev s_Waits_put : Stmt := inClass (top 8) 1
theorem sc_Waits_put : FnScope ["self", "name", "time"] ["self", "name", "time"] (defScope s_Waits_put) := by walk_at "scp"
abbrev s_Waits_due : Stmt := inClass (top 8) 3
theorem sc_Waits_due : FnScope ["self", "to", "told", "time", "name"] ["self", "to"] (defScope s_Waits_due) := by walk_at "scp"
abbrev s_Waits_least : Stmt := inClass (top 8) 4
theorem sc_Waits_least : FnScope ["self"] ["self"] (defScope s_Waits_least) := by walk_at "scp"
abbrev s_Waits_all_of : Stmt := inClass (top 8) 6
theorem sc_Waits_all_of : FnScope ["self"] ["self"] (defScope s_Waits_all_of) := by walk_at "scp"
abbrev s_Waits_check_waits : Stmt := inClass (top 8) 7
theorem sc_Waits_check_waits : FnScope ["self", "name"] ["self", "name"] (defScope s_Waits_check_waits) := by walk_at "scp"
abbrev s_is_whole : Stmt := top 10
theorem sc_is_whole : FnScope ["thing"] ["thing"] (defScope s_is_whole) := by walk_at "scp"
abbrev s_check_rounds : Stmt := top 15
theorem sc_check_rounds : FnScope ["rounds", "slots"] ["rounds"] (defScope s_check_rounds) := by walk_at "scp"
abbrev s_wheels_of : Stmt := top 16
theorem sc_wheels_of : FnScope ["rounds", "wheels", "unit", "slots"] ["rounds"] (defScope s_wheels_of) := by walk_at "scp"
abbrev s_place_in : Stmt := top 17
theorem sc_place_in : FnScope ["row", "pair", "low", "high", "middle"] ["row", "pair"] (defScope s_place_in) := by walk_at "scp"
abbrev s_Wheel___init__ : Stmt := inClass (top 18) 0
theorem sc_Wheel___init__ : FnScope ["self", "unit", "slots"] ["self", "unit", "slots"] (defScope s_Wheel___init__) := by walk_at "scp"
abbrev s_Wheel_holds : Stmt := inClass (top 18) 1
theorem sc_Wheel_holds : FnScope ["self", "time", "now"] ["self", "time", "now"] (defScope s_Wheel_holds) := by walk_at "scp"
abbrev s_Wheel_slot_of : Stmt := inClass (top 18) 2
theorem sc_Wheel_slot_of : FnScope ["self", "time"] ["self", "time"] (defScope s_Wheel_slot_of) := by walk_at "scp"
abbrev s_Wheel_lay_in : Stmt := inClass (top 18) 3
theorem sc_Wheel_lay_in : FnScope ["self", "name", "time", "slot"] ["self", "name", "time"] (defScope s_Wheel_lay_in) := by walk_at "scp"
abbrev s_Wheel_empty : Stmt := inClass (top 18) 5
theorem sc_Wheel_empty : FnScope ["self", "slot"] ["self", "slot"] (defScope s_Wheel_empty) := by walk_at "scp"
abbrev s_Wheel_let_out : Stmt := inClass (top 18) 6
theorem sc_Wheel_let_out : FnScope ["self", "now", "to", "passed", "names", "slot"] ["self", "now", "to"] (defScope s_Wheel_let_out) := by walk_at "scp"
abbrev s_Wheels___init__ : Stmt := inClass (top 19) 0
theorem sc_Wheels___init__ : FnScope ["self", "rounds", "now"] ["self", "rounds", "now"] (defScope s_Wheels___init__) := by walk_at "scp"
abbrev s_Wheels_wheel_of : Stmt := inClass (top 19) 1
theorem sc_Wheels_wheel_of : FnScope ["self", "name"] ["self", "name"] (defScope s_Wheels_wheel_of) := by walk_at "scp"
abbrev s_Wheels_bits : Stmt := inClass (top 19) 2
theorem sc_Wheels_bits : FnScope ["self", "k"] ["self", "k"] (defScope s_Wheels_bits) := by walk_at "scp"
abbrev s_Wheels_moved : Stmt := inClass (top 19) 3
theorem sc_Wheels_moved : FnScope ["self", "name"] ["self", "name"] (defScope s_Wheels_moved) := by walk_at "scp"
abbrev s_Wheels_wheel_at : Stmt := inClass (top 19) 4
theorem sc_Wheels_wheel_at : FnScope ["self", "time", "now", "k", "wheel"] ["self", "time", "now"] (defScope s_Wheels_wheel_at) := by walk_at "scp"
abbrev s_Wheels_enter : Stmt := inClass (top 19) 5
theorem sc_Wheels_enter : FnScope ["self", "name", "time"] ["self", "name", "time"] (defScope s_Wheels_enter) := by walk_at "scp"
abbrev s_Wheels_lie_down : Stmt := inClass (top 19) 6
theorem sc_Wheels_lie_down : FnScope ["self", "name", "time", "now", "k"] ["self", "name", "time", "now"] (defScope s_Wheels_lie_down) := by walk_at "scp"
abbrev s_Wheels_pass_on : Stmt := inClass (top 19) 8
theorem sc_Wheels_pass_on : FnScope ["self", "to", "left", "wheel", "over", "name"] ["self", "to"] (defScope s_Wheels_pass_on) := by walk_at "scp"
abbrev s_Wheels_come_near : Stmt := inClass (top 19) 9
theorem sc_Wheels_come_near : FnScope ["self", "to", "span", "names"] ["self", "to"] (defScope s_Wheels_come_near) := by walk_at "scp"
abbrev s__law_cell_at : Stmt := top 21
theorem sc__law_cell_at : FnScope ["_law_script", "_law_k"] ["_law_script", "_law_k"] (defScope s__law_cell_at) := by walk_at "scp"
abbrev s__law_drawn : Stmt := top 22
theorem sc__law_drawn : FnScope ["_law_cell", "_law_k", "_law_number"] ["_law_cell", "_law_k"] (defScope s__law_drawn) := by walk_at "scp"
abbrev s__law_draws : Stmt := top 23
theorem sc__law_draws : FnScope ["_law_cell", "_law_many", "_law_way", "_law_found", "_law_k"] ["_law_cell", "_law_many", "_law_way"] (defScope s__law_draws) := by walk_at "scp"
abbrev s__law_word : Stmt := top 24
theorem sc__law_word : FnScope ["_law_draw", "_law_name_here", "_law_rest", "_law_k"] ["_law_draw"] (defScope s__law_word) := by walk_at "scp"
abbrev s__law_rounds : Stmt := top 25
theorem sc__law_rounds : FnScope ["_law_script", "_law_many"] ["_law_script"] (defScope s__law_rounds) := by walk_at "scp"
abbrev s__law_name : Stmt := top 26
theorem sc__law_name : FnScope ["_law_k", "_law_style", "_law_some"] ["_law_k", "_law_style"] (defScope s__law_name) := by walk_at "scp"
abbrev s__law_time : Stmt := top 27
theorem sc__law_time : FnScope ["_law_draw", "_law_now", "_law_rounds_here", "_law_way", "_law_rest", "_law_unit", "_law_many"] ["_law_draw", "_law_now", "_law_rounds_here"] (defScope s__law_time) := by walk_at "scp"
abbrev s__law_things : Stmt := top 28
theorem sc__law_things : FnScope ["_law_cells", "_law_now", "_law_rounds_here", "_law_style", "_law_way", "_law_things_here", "_law_k", "_law_cell", "_law_draws_here", "_law_name_here"] ["_law_cells", "_law_now", "_law_rounds_here", "_law_style", "_law_way"] (defScope s__law_things) := by walk_at "scp"
abbrev s__law_to : Stmt := top 29
theorem sc__law_to : FnScope ["_law_things_here", "_law_now", "_law_style", "_law_cell", "_law_far"] ["_law_things_here", "_law_now", "_law_style", "_law_cell"] (defScope s__law_to) := by walk_at "scp"
abbrev s__law_made : Stmt := top 30
theorem sc__law_made : FnScope ["_law_rounds_here", "_law_now", "_law_things_here", "_law_told", "_law_name_here", "_law_time_here"] ["_law_rounds_here", "_law_now", "_law_things_here"] (defScope s__law_made) := by walk_at "scp"
abbrev s__law_by_steps : Stmt := top 31
theorem sc__law_by_steps : FnScope ["_law_told", "_law_script", "_law_now", "_law_to_here", "_law_found", "_law_time_here"] ["_law_told", "_law_script", "_law_now", "_law_to_here"] (defScope s__law_by_steps) := by walk_at "scp"
abbrev s__law_by_leasts : Stmt := top 32
theorem sc__law_by_leasts : FnScope ["_law_told", "_law_to_here", "_law_found", "_law_k", "_law_least", "_law_some", "_law_others"] ["_law_told", "_law_to_here"] (defScope s__law_by_leasts) := by walk_at "scp"
abbrev s__law_lies_as : Stmt := top 33
theorem sc__law_lies_as : FnScope ["_law_one", "_law_other", "_law_rounds_here", "_law_k", "_law_time_here", "_law_name_here"] ["_law_one", "_law_other", "_law_rounds_here"] (defScope s__law_lies_as) := by walk_at "scp"
abbrev s__law_fell : Stmt := top 34
theorem sc__law_fell : FnScope ["_law_told", "_law_wheels", "_law_least", "_law_time_here", "_law_name_here", "_law_many"] ["_law_told", "_law_wheels", "_law_least"] (defScope s__law_fell) := by walk_at "scp"
abbrev s_law : Stmt := top 35
theorem sc_law : FnScope ["_law_script", "_law_rounds_here", "_law_now", "_law_style", "_law_way", "_law_things_here", "_law_to_here", "_law_lots", "_law_wheels", "_law_name_here", "_law_time_here", "_law_found", "_law_k"] ["_law_script"] (defScope s_law) := by walk_at "scp"
theorem ne_unit_slots : ¬ (("unit" : Str) = "slots") := by decide +kernel
theorem ne_unit_span : ¬ (("unit" : Str) = "span") := by decide +kernel
theorem ne_unit_mask : ¬ (("unit" : Str) = "mask") := by decide +kernel
theorem ne_unit_names_in : ¬ (("unit" : Str) = "names_in") := by decide +kernel
theorem ne_slots_unit : ¬ (("slots" : Str) = "unit") := by decide +kernel
theorem ne_slots_span : ¬ (("slots" : Str) = "span") := by decide +kernel
theorem ne_slots_mask : ¬ (("slots" : Str) = "mask") := by decide +kernel
theorem ne_slots_names_in : ¬ (("slots" : Str) = "names_in") := by decide +kernel
theorem ne_span_unit : ¬ (("span" : Str) = "unit") := by decide +kernel
theorem ne_span_slots : ¬ (("span" : Str) = "slots") := by decide +kernel
theorem ne_span_mask : ¬ (("span" : Str) = "mask") := by decide +kernel
theorem ne_span_names_in : ¬ (("span" : Str) = "names_in") := by decide +kernel
theorem ne_mask_unit : ¬ (("mask" : Str) = "unit") := by decide +kernel
theorem ne_mask_slots : ¬ (("mask" : Str) = "slots") := by decide +kernel
theorem ne_mask_span : ¬ (("mask" : Str) = "span") := by decide +kernel
theorem ne_mask_names_in : ¬ (("mask" : Str) = "names_in") := by decide +kernel
theorem ne_names_in_unit : ¬ (("names_in" : Str) = "unit") := by decide +kernel
theorem ne_names_in_slots : ¬ (("names_in" : Str) = "slots") := by decide +kernel
theorem ne_names_in_span : ¬ (("names_in" : Str) = "span") := by decide +kernel
theorem ne_names_in_mask : ¬ (("names_in" : Str) = "mask") := by decide +kernel
theorem ne___init___unit : ¬ (("__init__" : Str) = "unit") := by decide +kernel
theorem ne___init___slots : ¬ (("__init__" : Str) = "slots") := by decide +kernel
theorem ne___init___span : ¬ (("__init__" : Str) = "span") := by decide +kernel
theorem ne___init___mask : ¬ (("__init__" : Str) = "mask") := by decide +kernel
theorem ne___init___names_in : ¬ (("__init__" : Str) = "names_in") := by decide +kernel
theorem ne_holds_unit : ¬ (("holds" : Str) = "unit") := by decide +kernel
theorem ne_holds_slots : ¬ (("holds" : Str) = "slots") := by decide +kernel
theorem ne_holds_span : ¬ (("holds" : Str) = "span") := by decide +kernel
theorem ne_holds_mask : ¬ (("holds" : Str) = "mask") := by decide +kernel
theorem ne_holds_names_in : ¬ (("holds" : Str) = "names_in") := by decide +kernel
theorem ne_slot_of_unit : ¬ (("slot_of" : Str) = "unit") := by decide +kernel
theorem ne_slot_of_slots : ¬ (("slot_of" : Str) = "slots") := by decide +kernel
theorem ne_slot_of_span : ¬ (("slot_of" : Str) = "span") := by decide +kernel
theorem ne_slot_of_mask : ¬ (("slot_of" : Str) = "mask") := by decide +kernel
theorem ne_slot_of_names_in : ¬ (("slot_of" : Str) = "names_in") := by decide +kernel
theorem ne_lay_in_unit : ¬ (("lay_in" : Str) = "unit") := by decide +kernel
theorem ne_lay_in_slots : ¬ (("lay_in" : Str) = "slots") := by decide +kernel
theorem ne_lay_in_span : ¬ (("lay_in" : Str) = "span") := by decide +kernel
theorem ne_lay_in_mask : ¬ (("lay_in" : Str) = "mask") := by decide +kernel
theorem ne_lay_in_names_in : ¬ (("lay_in" : Str) = "names_in") := by decide +kernel
theorem ne_lift_out_unit : ¬ (("lift_out" : Str) = "unit") := by decide +kernel
theorem ne_lift_out_slots : ¬ (("lift_out" : Str) = "slots") := by decide +kernel
theorem ne_lift_out_span : ¬ (("lift_out" : Str) = "span") := by decide +kernel
theorem ne_lift_out_mask : ¬ (("lift_out" : Str) = "mask") := by decide +kernel
theorem ne_lift_out_names_in : ¬ (("lift_out" : Str) = "names_in") := by decide +kernel
theorem ne_empty_unit : ¬ (("empty" : Str) = "unit") := by decide +kernel
theorem ne_empty_slots : ¬ (("empty" : Str) = "slots") := by decide +kernel
theorem ne_empty_span : ¬ (("empty" : Str) = "span") := by decide +kernel
theorem ne_empty_mask : ¬ (("empty" : Str) = "mask") := by decide +kernel
theorem ne_empty_names_in : ¬ (("empty" : Str) = "names_in") := by decide +kernel
theorem ne_let_out_unit : ¬ (("let_out" : Str) = "unit") := by decide +kernel
theorem ne_let_out_slots : ¬ (("let_out" : Str) = "slots") := by decide +kernel
theorem ne_let_out_span : ¬ (("let_out" : Str) = "span") := by decide +kernel
theorem ne_let_out_mask : ¬ (("let_out" : Str) = "mask") := by decide +kernel
theorem ne_let_out_names_in : ¬ (("let_out" : Str) = "names_in") := by decide +kernel
theorem ne_now_times : ¬ (("now" : Str) = "times") := by decide +kernel
theorem ne_now_wheels : ¬ (("now" : Str) = "wheels") := by decide +kernel
theorem ne_now_far : ¬ (("now" : Str) = "far") := by decide +kernel
theorem ne_now_moves : ¬ (("now" : Str) = "moves") := by decide +kernel
theorem ne_times_now : ¬ (("times" : Str) = "now") := by decide +kernel
theorem ne_times_wheels : ¬ (("times" : Str) = "wheels") := by decide +kernel
theorem ne_times_far : ¬ (("times" : Str) = "far") := by decide +kernel
theorem ne_times_moves : ¬ (("times" : Str) = "moves") := by decide +kernel
theorem ne_wheels_now : ¬ (("wheels" : Str) = "now") := by decide +kernel
theorem ne_wheels_times : ¬ (("wheels" : Str) = "times") := by decide +kernel
theorem ne_wheels_far : ¬ (("wheels" : Str) = "far") := by decide +kernel
theorem ne_wheels_moves : ¬ (("wheels" : Str) = "moves") := by decide +kernel
theorem ne_far_now : ¬ (("far" : Str) = "now") := by decide +kernel
theorem ne_far_times : ¬ (("far" : Str) = "times") := by decide +kernel
theorem ne_far_wheels : ¬ (("far" : Str) = "wheels") := by decide +kernel
theorem ne_far_moves : ¬ (("far" : Str) = "moves") := by decide +kernel
theorem ne_moves_now : ¬ (("moves" : Str) = "now") := by decide +kernel
theorem ne_moves_times : ¬ (("moves" : Str) = "times") := by decide +kernel
theorem ne_moves_wheels : ¬ (("moves" : Str) = "wheels") := by decide +kernel
theorem ne_moves_far : ¬ (("moves" : Str) = "far") := by decide +kernel
theorem ne___init___now : ¬ (("__init__" : Str) = "now") := by decide +kernel
theorem ne___init___times : ¬ (("__init__" : Str) = "times") := by decide +kernel
theorem ne___init___wheels : ¬ (("__init__" : Str) = "wheels") := by decide +kernel
theorem ne___init___far : ¬ (("__init__" : Str) = "far") := by decide +kernel
theorem ne___init___moves : ¬ (("__init__" : Str) = "moves") := by decide +kernel
theorem ne_wheel_of_now : ¬ (("wheel_of" : Str) = "now") := by decide +kernel
theorem ne_wheel_of_times : ¬ (("wheel_of" : Str) = "times") := by decide +kernel
theorem ne_wheel_of_wheels : ¬ (("wheel_of" : Str) = "wheels") := by decide +kernel
theorem ne_wheel_of_far : ¬ (("wheel_of" : Str) = "far") := by decide +kernel
theorem ne_wheel_of_moves : ¬ (("wheel_of" : Str) = "moves") := by decide +kernel
theorem ne_bits_now : ¬ (("bits" : Str) = "now") := by decide +kernel
theorem ne_bits_times : ¬ (("bits" : Str) = "times") := by decide +kernel
theorem ne_bits_wheels : ¬ (("bits" : Str) = "wheels") := by decide +kernel
theorem ne_bits_far : ¬ (("bits" : Str) = "far") := by decide +kernel
theorem ne_bits_moves : ¬ (("bits" : Str) = "moves") := by decide +kernel
theorem ne_moved_now : ¬ (("moved" : Str) = "now") := by decide +kernel
theorem ne_moved_times : ¬ (("moved" : Str) = "times") := by decide +kernel
theorem ne_moved_wheels : ¬ (("moved" : Str) = "wheels") := by decide +kernel
theorem ne_moved_far : ¬ (("moved" : Str) = "far") := by decide +kernel
theorem ne_moved_moves : ¬ (("moved" : Str) = "moves") := by decide +kernel
theorem ne_wheel_at_now : ¬ (("wheel_at" : Str) = "now") := by decide +kernel
theorem ne_wheel_at_times : ¬ (("wheel_at" : Str) = "times") := by decide +kernel
theorem ne_wheel_at_wheels : ¬ (("wheel_at" : Str) = "wheels") := by decide +kernel
theorem ne_wheel_at_far : ¬ (("wheel_at" : Str) = "far") := by decide +kernel
theorem ne_wheel_at_moves : ¬ (("wheel_at" : Str) = "moves") := by decide +kernel
theorem ne_enter_now : ¬ (("enter" : Str) = "now") := by decide +kernel
theorem ne_enter_times : ¬ (("enter" : Str) = "times") := by decide +kernel
theorem ne_enter_wheels : ¬ (("enter" : Str) = "wheels") := by decide +kernel
theorem ne_enter_far : ¬ (("enter" : Str) = "far") := by decide +kernel
theorem ne_enter_moves : ¬ (("enter" : Str) = "moves") := by decide +kernel
theorem ne_lie_down_now : ¬ (("lie_down" : Str) = "now") := by decide +kernel
theorem ne_lie_down_times : ¬ (("lie_down" : Str) = "times") := by decide +kernel
theorem ne_lie_down_wheels : ¬ (("lie_down" : Str) = "wheels") := by decide +kernel
theorem ne_lie_down_far : ¬ (("lie_down" : Str) = "far") := by decide +kernel
theorem ne_lie_down_moves : ¬ (("lie_down" : Str) = "moves") := by decide +kernel
theorem ne_leave_now : ¬ (("leave" : Str) = "now") := by decide +kernel
theorem ne_leave_times : ¬ (("leave" : Str) = "times") := by decide +kernel
theorem ne_leave_wheels : ¬ (("leave" : Str) = "wheels") := by decide +kernel
theorem ne_leave_far : ¬ (("leave" : Str) = "far") := by decide +kernel
theorem ne_leave_moves : ¬ (("leave" : Str) = "moves") := by decide +kernel
theorem ne_pass_on_now : ¬ (("pass_on" : Str) = "now") := by decide +kernel
theorem ne_pass_on_times : ¬ (("pass_on" : Str) = "times") := by decide +kernel
theorem ne_pass_on_wheels : ¬ (("pass_on" : Str) = "wheels") := by decide +kernel
theorem ne_pass_on_far : ¬ (("pass_on" : Str) = "far") := by decide +kernel
theorem ne_pass_on_moves : ¬ (("pass_on" : Str) = "moves") := by decide +kernel
theorem ne_come_near_now : ¬ (("come_near" : Str) = "now") := by decide +kernel
theorem ne_come_near_times : ¬ (("come_near" : Str) = "times") := by decide +kernel
theorem ne_come_near_wheels : ¬ (("come_near" : Str) = "wheels") := by decide +kernel
theorem ne_come_near_far : ¬ (("come_near" : Str) = "far") := by decide +kernel
theorem ne_come_near_moves : ¬ (("come_near" : Str) = "moves") := by decide +kernel
theorem ne_put_now : ¬ (("put" : Str) = "now") := by decide +kernel
theorem ne_put_times : ¬ (("put" : Str) = "times") := by decide +kernel
theorem ne_put_wheels : ¬ (("put" : Str) = "wheels") := by decide +kernel
theorem ne_put_far : ¬ (("put" : Str) = "far") := by decide +kernel
theorem ne_put_moves : ¬ (("put" : Str) = "moves") := by decide +kernel
theorem ne_take_now : ¬ (("take" : Str) = "now") := by decide +kernel
theorem ne_take_times : ¬ (("take" : Str) = "times") := by decide +kernel
theorem ne_take_wheels : ¬ (("take" : Str) = "wheels") := by decide +kernel
theorem ne_take_far : ¬ (("take" : Str) = "far") := by decide +kernel
theorem ne_take_moves : ¬ (("take" : Str) = "moves") := by decide +kernel
theorem ne_due_now : ¬ (("due" : Str) = "now") := by decide +kernel
theorem ne_due_times : ¬ (("due" : Str) = "times") := by decide +kernel
theorem ne_due_wheels : ¬ (("due" : Str) = "wheels") := by decide +kernel
theorem ne_due_far : ¬ (("due" : Str) = "far") := by decide +kernel
theorem ne_due_moves : ¬ (("due" : Str) = "moves") := by decide +kernel
theorem ne_least_now : ¬ (("least" : Str) = "now") := by decide +kernel
theorem ne_least_times : ¬ (("least" : Str) = "times") := by decide +kernel
theorem ne_least_wheels : ¬ (("least" : Str) = "wheels") := by decide +kernel
theorem ne_least_far : ¬ (("least" : Str) = "far") := by decide +kernel
theorem ne_least_moves : ¬ (("least" : Str) = "moves") := by decide +kernel
theorem ne_time_of_now : ¬ (("time_of" : Str) = "now") := by decide +kernel
theorem ne_time_of_times : ¬ (("time_of" : Str) = "times") := by decide +kernel
theorem ne_time_of_wheels : ¬ (("time_of" : Str) = "wheels") := by decide +kernel
theorem ne_time_of_far : ¬ (("time_of" : Str) = "far") := by decide +kernel
theorem ne_time_of_moves : ¬ (("time_of" : Str) = "moves") := by decide +kernel
theorem ne_all_of_now : ¬ (("all_of" : Str) = "now") := by decide +kernel
theorem ne_all_of_times : ¬ (("all_of" : Str) = "times") := by decide +kernel
theorem ne_all_of_wheels : ¬ (("all_of" : Str) = "wheels") := by decide +kernel
theorem ne_all_of_far : ¬ (("all_of" : Str) = "far") := by decide +kernel
theorem ne_all_of_moves : ¬ (("all_of" : Str) = "moves") := by decide +kernel
theorem ne_check_waits_now : ¬ (("check_waits" : Str) = "now") := by decide +kernel
theorem ne_check_waits_times : ¬ (("check_waits" : Str) = "times") := by decide +kernel
theorem ne_check_waits_wheels : ¬ (("check_waits" : Str) = "wheels") := by decide +kernel
theorem ne_check_waits_far : ¬ (("check_waits" : Str) = "far") := by decide +kernel
theorem ne_check_waits_moves : ¬ (("check_waits" : Str) = "moves") := by decide +kernel
set_option hygiene false in
local macro_rules | `(tactic| walk_at "lk") => `(tactic| first
 | assumption
 | (rw [lookup_look]; ((conv => lhs; simp only [look, reduceIte, ne_unit_slots, ne_unit_span, ne_unit_mask, ne_unit_names_in, ne_slots_unit, ne_slots_span, ne_slots_mask, ne_slots_names_in, ne_span_unit, ne_span_slots, ne_span_mask, ne_span_names_in, ne_mask_unit, ne_mask_slots, ne_mask_span, ne_mask_names_in, ne_names_in_unit, ne_names_in_slots, ne_names_in_span, ne_names_in_mask, ne___init___unit, ne___init___slots, ne___init___span, ne___init___mask, ne___init___names_in, ne_holds_unit, ne_holds_slots, ne_holds_span, ne_holds_mask, ne_holds_names_in, ne_slot_of_unit, ne_slot_of_slots, ne_slot_of_span, ne_slot_of_mask, ne_slot_of_names_in, ne_lay_in_unit, ne_lay_in_slots, ne_lay_in_span, ne_lay_in_mask, ne_lay_in_names_in, ne_lift_out_unit, ne_lift_out_slots, ne_lift_out_span, ne_lift_out_mask, ne_lift_out_names_in, ne_empty_unit, ne_empty_slots, ne_empty_span, ne_empty_mask, ne_empty_names_in, ne_let_out_unit, ne_let_out_slots, ne_let_out_span, ne_let_out_mask, ne_let_out_names_in, ne_now_times, ne_now_wheels, ne_now_far, ne_now_moves, ne_times_now, ne_times_wheels, ne_times_far, ne_times_moves, ne_wheels_now, ne_wheels_times, ne_wheels_far, ne_wheels_moves, ne_far_now, ne_far_times, ne_far_wheels, ne_far_moves, ne_moves_now, ne_moves_times, ne_moves_wheels, ne_moves_far, ne___init___now, ne___init___times, ne___init___wheels, ne___init___far, ne___init___moves, ne_wheel_of_now, ne_wheel_of_times, ne_wheel_of_wheels, ne_wheel_of_far, ne_wheel_of_moves, ne_bits_now, ne_bits_times, ne_bits_wheels, ne_bits_far, ne_bits_moves, ne_moved_now, ne_moved_times, ne_moved_wheels, ne_moved_far, ne_moved_moves, ne_wheel_at_now, ne_wheel_at_times, ne_wheel_at_wheels, ne_wheel_at_far, ne_wheel_at_moves, ne_enter_now, ne_enter_times, ne_enter_wheels, ne_enter_far, ne_enter_moves, ne_lie_down_now, ne_lie_down_times, ne_lie_down_wheels, ne_lie_down_far, ne_lie_down_moves, ne_leave_now, ne_leave_times, ne_leave_wheels, ne_leave_far, ne_leave_moves, ne_pass_on_now, ne_pass_on_times, ne_pass_on_wheels, ne_pass_on_far, ne_pass_on_moves, ne_come_near_now, ne_come_near_times, ne_come_near_wheels, ne_come_near_far, ne_come_near_moves, ne_put_now, ne_put_times, ne_put_wheels, ne_put_far, ne_put_moves, ne_take_now, ne_take_times, ne_take_wheels, ne_take_far, ne_take_moves, ne_due_now, ne_due_times, ne_due_wheels, ne_due_far, ne_due_moves, ne_least_now, ne_least_times, ne_least_wheels, ne_least_far, ne_least_moves, ne_time_of_now, ne_time_of_times, ne_time_of_wheels, ne_time_of_far, ne_time_of_moves, ne_all_of_now, ne_all_of_times, ne_all_of_wheels, ne_all_of_far, ne_all_of_moves, ne_check_waits_now, ne_check_waits_times, ne_check_waits_wheels, ne_check_waits_far, ne_check_waits_moves]) <;> exact rfl)))
set_option hygiene false in
local macro_rules | `(tactic| walk_at "put") => `(tactic| ((conv => lhs; simp only [putF, reduceIte, ne_unit_slots, ne_unit_span, ne_unit_mask, ne_unit_names_in, ne_slots_unit, ne_slots_span, ne_slots_mask, ne_slots_names_in, ne_span_unit, ne_span_slots, ne_span_mask, ne_span_names_in, ne_mask_unit, ne_mask_slots, ne_mask_span, ne_mask_names_in, ne_names_in_unit, ne_names_in_slots, ne_names_in_span, ne_names_in_mask, ne___init___unit, ne___init___slots, ne___init___span, ne___init___mask, ne___init___names_in, ne_holds_unit, ne_holds_slots, ne_holds_span, ne_holds_mask, ne_holds_names_in, ne_slot_of_unit, ne_slot_of_slots, ne_slot_of_span, ne_slot_of_mask, ne_slot_of_names_in, ne_lay_in_unit, ne_lay_in_slots, ne_lay_in_span, ne_lay_in_mask, ne_lay_in_names_in, ne_lift_out_unit, ne_lift_out_slots, ne_lift_out_span, ne_lift_out_mask, ne_lift_out_names_in, ne_empty_unit, ne_empty_slots, ne_empty_span, ne_empty_mask, ne_empty_names_in, ne_let_out_unit, ne_let_out_slots, ne_let_out_span, ne_let_out_mask, ne_let_out_names_in, ne_now_times, ne_now_wheels, ne_now_far, ne_now_moves, ne_times_now, ne_times_wheels, ne_times_far, ne_times_moves, ne_wheels_now, ne_wheels_times, ne_wheels_far, ne_wheels_moves, ne_far_now, ne_far_times, ne_far_wheels, ne_far_moves, ne_moves_now, ne_moves_times, ne_moves_wheels, ne_moves_far, ne___init___now, ne___init___times, ne___init___wheels, ne___init___far, ne___init___moves, ne_wheel_of_now, ne_wheel_of_times, ne_wheel_of_wheels, ne_wheel_of_far, ne_wheel_of_moves, ne_bits_now, ne_bits_times, ne_bits_wheels, ne_bits_far, ne_bits_moves, ne_moved_now, ne_moved_times, ne_moved_wheels, ne_moved_far, ne_moved_moves, ne_wheel_at_now, ne_wheel_at_times, ne_wheel_at_wheels, ne_wheel_at_far, ne_wheel_at_moves, ne_enter_now, ne_enter_times, ne_enter_wheels, ne_enter_far, ne_enter_moves, ne_lie_down_now, ne_lie_down_times, ne_lie_down_wheels, ne_lie_down_far, ne_lie_down_moves, ne_leave_now, ne_leave_times, ne_leave_wheels, ne_leave_far, ne_leave_moves, ne_pass_on_now, ne_pass_on_times, ne_pass_on_wheels, ne_pass_on_far, ne_pass_on_moves, ne_come_near_now, ne_come_near_times, ne_come_near_wheels, ne_come_near_far, ne_come_near_moves, ne_put_now, ne_put_times, ne_put_wheels, ne_put_far, ne_put_moves, ne_take_now, ne_take_times, ne_take_wheels, ne_take_far, ne_take_moves, ne_due_now, ne_due_times, ne_due_wheels, ne_due_far, ne_due_moves, ne_least_now, ne_least_times, ne_least_wheels, ne_least_far, ne_least_moves, ne_time_of_now, ne_time_of_times, ne_time_of_wheels, ne_time_of_far, ne_time_of_moves, ne_all_of_now, ne_all_of_times, ne_all_of_wheels, ne_all_of_far, ne_all_of_moves, ne_check_waits_now, ne_check_waits_times, ne_check_waits_wheels, ne_check_waits_far, ne_check_waits_moves]) <;> exact rfl))
structure DefG (K : PySem.W.Frag) (x q : Str) (s : Stmt) (d : Value) (f : Addr) : Prop where
 a : PySem.W.nsIn K mainGlobals x = some (some (.ref f))
 l : ∃ fd, FunD K x q s f d fd
 k : PySem.W.keepIn K (.ref f) = true
structure DefM (K : PySem.W.Frag) (C : Addr) (x q : Str) (s : Stmt) (d : Value) (f : Addr) : Prop where
 a : PySem.W.findIn K (.ref C) x = some (some (.ref f))
 l : ∃ fd, FunD K x q s f d fd
 k : PySem.W.keepIn K (.ref f) = true
 i : PySem.W.isFn K (.ref f) = true
structure ClsK (K : PySem.W.Frag) (C : Addr) : Prop where
 pg : PySem.W.plainGet K C Str.empty = true
 hd : PySem.W.hasDictIn K C = true
 po : PySem.W.plainOver K C = true
 sa : PySem.W.findIn K (.ref C) "__setattr__" = some (some (.builtin "object.__setattr__"))
 t1 : PySem.W.findIn K (.ref C) "__class__" = some (some (.builtin "object.__class__"))
 t2 : PySem.W.mroIn K C (.type "object") = some true
 t3 : PySem.W.typeIn K (.ref C) = some (.type "type")
structure ExL (K : PySem.W.Frag) (C W : Addr) : Prop where
 ex : ∃ (nm q : Str) (N : Addr) (bs : List Value) (sn : List Str) (sub : List Value) (ab : Bool) (col : Option Bool) (dd : Option Addr) (k0 k1 k2 k3 k5 : Option Value), K.lookup C = some (excClassObj nm q C N bs (.ref W :: veB) true sn sub ab col dd k0 k1 k2 k3 k5 "ValueError.__new__")
theorem exL_mk {K : PySem.W.Frag} {C W : Addr} {nm q : Str} {N : Addr} {bs : List Value} {sn : List Str} {sub : List Value} {ab : Bool} {col : Option Bool} {dd : Option Addr} {k0 k1 k2 k3 k5 : Option Value} (l : K.lookup C = some (excClassObj nm q C N bs (.ref W :: veB) true sn sub ab col dd k0 k1 k2 k3 k5 "ValueError.__new__")) : ExL K C W := ⟨⟨_, _, _, _, _, _, _, _, _, _, _, _, _, _, l⟩⟩
theorem defT_mk {K : PySem.W.Frag} {t : Addr} {xs : Array Value} {n : Nat} {d : Option Addr} {z : Array (Option Value)} {c : Value} (l : K.lookup t = some ⟨c, d, .seq xs n, z⟩) : DefT K t xs := ⟨⟨_, _, l, rfl⟩⟩
set_option genSizeOf false in
set_option genInjectivity false in
structure Ad where
 f_Twice___init__ : Addr
 fd_Twice___init__ : FuncData
 f_NoBell___init__ : Addr
 fd_NoBell___init__ : FuncData
 f_Waits___init__ : Addr
 fd_Waits___init__ : FuncData
 dT_Waits___init__ : Addr
 tk_Waits___init___0 : Tok
 f_Waits_put : Addr
 fd_Waits_put : FuncData
 f_Waits_due : Addr
 fd_Waits_due : FuncData
 f_Waits_least : Addr
 fd_Waits_least : FuncData
 f_Waits_all_of : Addr
 fd_Waits_all_of : FuncData
 f_Waits_check_waits : Addr
 fd_Waits_check_waits : FuncData
 f_is_whole : Addr
 fd_is_whole : FuncData
 f_check_rounds : Addr
 fd_check_rounds : FuncData
 f_wheels_of : Addr
 fd_wheels_of : FuncData
 f_place_in : Addr
 fd_place_in : FuncData
 f_Wheel___init__ : Addr
 fd_Wheel___init__ : FuncData
 f_Wheel_holds : Addr
 fd_Wheel_holds : FuncData
 f_Wheel_slot_of : Addr
 fd_Wheel_slot_of : FuncData
 f_Wheel_lay_in : Addr
 fd_Wheel_lay_in : FuncData
 f_Wheel_empty : Addr
 fd_Wheel_empty : FuncData
 f_Wheel_let_out : Addr
 fd_Wheel_let_out : FuncData
 f_Wheels___init__ : Addr
 fd_Wheels___init__ : FuncData
 dT_Wheels___init__ : Addr
 tk_Wheels___init___0 : Tok
 f_Wheels_wheel_of : Addr
 fd_Wheels_wheel_of : FuncData
 f_Wheels_bits : Addr
 fd_Wheels_bits : FuncData
 f_Wheels_moved : Addr
 fd_Wheels_moved : FuncData
 f_Wheels_wheel_at : Addr
 fd_Wheels_wheel_at : FuncData
 f_Wheels_enter : Addr
 fd_Wheels_enter : FuncData
 f_Wheels_lie_down : Addr
 fd_Wheels_lie_down : FuncData
 f_Wheels_pass_on : Addr
 fd_Wheels_pass_on : FuncData
 f_Wheels_come_near : Addr
 fd_Wheels_come_near : FuncData
 f__law_cell_at : Addr
 fd__law_cell_at : FuncData
 f__law_drawn : Addr
 fd__law_drawn : FuncData
 f__law_draws : Addr
 fd__law_draws : FuncData
 f__law_word : Addr
 fd__law_word : FuncData
 f__law_rounds : Addr
 fd__law_rounds : FuncData
 f__law_name : Addr
 fd__law_name : FuncData
 f__law_time : Addr
 fd__law_time : FuncData
 f__law_things : Addr
 fd__law_things : FuncData
 f__law_to : Addr
 fd__law_to : FuncData
 f__law_made : Addr
 fd__law_made : FuncData
 f__law_by_steps : Addr
 fd__law_by_steps : FuncData
 f__law_by_leasts : Addr
 fd__law_by_leasts : FuncData
 f__law_lies_as : Addr
 fd__law_lies_as : FuncData
 f__law_fell : Addr
 fd__law_fell : FuncData
 f_law : Addr
 fd_law : FuncData
 C_Waits : Addr
 C_Wheel : Addr
 C_Wheels : Addr
 C_NoBell : Addr
 C_NoRounds : Addr
 C_Past : Addr
 C_Twice : Addr
 C_WakeError : Addr
 tkG_LEAST_ROUND : Tok
 tkG_MOST_ROUND : Tok
 tkG_MOST_WHEELS : Tok
structure Txt (K : PySem.W.Frag) (mg : Str -> Option Value) (a : Ad) : Prop where
 F_Twice___init__ : FunD K "__init__" "Twice.__init__" s_Twice___init__ a.f_Twice___init__ (.none) a.fd_Twice___init__
 F_NoBell___init__ : FunD K "__init__" "NoBell.__init__" s_NoBell___init__ a.f_NoBell___init__ (.none) a.fd_NoBell___init__
 F_Waits___init__ : FunD K "__init__" "Waits.__init__" s_Waits___init__ a.f_Waits___init__ (.ref a.dT_Waits___init__) a.fd_Waits___init__
 D_Waits___init__ : DefT K a.dT_Waits___init__ #[(.int 0 a.tk_Waits___init___0)]
 F_Waits_put : FunD K "put" "Waits.put" s_Waits_put a.f_Waits_put (.none) a.fd_Waits_put
 F_Waits_due : FunD K "due" "Waits.due" s_Waits_due a.f_Waits_due (.none) a.fd_Waits_due
 F_Waits_least : FunD K "least" "Waits.least" s_Waits_least a.f_Waits_least (.none) a.fd_Waits_least
 F_Waits_all_of : FunD K "all_of" "Waits.all_of" s_Waits_all_of a.f_Waits_all_of (.none) a.fd_Waits_all_of
 F_Waits_check_waits : FunD K "check_waits" "Waits.check_waits" s_Waits_check_waits a.f_Waits_check_waits (.none) a.fd_Waits_check_waits
 F_is_whole : FunD K "is_whole" "is_whole" s_is_whole a.f_is_whole (.none) a.fd_is_whole
 kp_is_whole : PySem.W.keepIn K (.ref a.f_is_whole) = true
 mg_is_whole : mg "is_whole" = some (.ref a.f_is_whole)
 F_check_rounds : FunD K "check_rounds" "check_rounds" s_check_rounds a.f_check_rounds (.none) a.fd_check_rounds
 kp_check_rounds : PySem.W.keepIn K (.ref a.f_check_rounds) = true
 mg_check_rounds : mg "check_rounds" = some (.ref a.f_check_rounds)
 F_wheels_of : FunD K "wheels_of" "wheels_of" s_wheels_of a.f_wheels_of (.none) a.fd_wheels_of
 kp_wheels_of : PySem.W.keepIn K (.ref a.f_wheels_of) = true
 mg_wheels_of : mg "wheels_of" = some (.ref a.f_wheels_of)
 F_place_in : FunD K "place_in" "place_in" s_place_in a.f_place_in (.none) a.fd_place_in
 kp_place_in : PySem.W.keepIn K (.ref a.f_place_in) = true
 mg_place_in : mg "place_in" = some (.ref a.f_place_in)
 F_Wheel___init__ : FunD K "__init__" "Wheel.__init__" s_Wheel___init__ a.f_Wheel___init__ (.none) a.fd_Wheel___init__
 F_Wheel_holds : FunD K "holds" "Wheel.holds" s_Wheel_holds a.f_Wheel_holds (.none) a.fd_Wheel_holds
 F_Wheel_slot_of : FunD K "slot_of" "Wheel.slot_of" s_Wheel_slot_of a.f_Wheel_slot_of (.none) a.fd_Wheel_slot_of
 F_Wheel_lay_in : FunD K "lay_in" "Wheel.lay_in" s_Wheel_lay_in a.f_Wheel_lay_in (.none) a.fd_Wheel_lay_in
 F_Wheel_empty : FunD K "empty" "Wheel.empty" s_Wheel_empty a.f_Wheel_empty (.none) a.fd_Wheel_empty
 F_Wheel_let_out : FunD K "let_out" "Wheel.let_out" s_Wheel_let_out a.f_Wheel_let_out (.none) a.fd_Wheel_let_out
 F_Wheels___init__ : FunD K "__init__" "Wheels.__init__" s_Wheels___init__ a.f_Wheels___init__ (.ref a.dT_Wheels___init__) a.fd_Wheels___init__
 D_Wheels___init__ : DefT K a.dT_Wheels___init__ #[(.int 0 a.tk_Wheels___init___0)]
 F_Wheels_wheel_of : FunD K "wheel_of" "Wheels.wheel_of" s_Wheels_wheel_of a.f_Wheels_wheel_of (.none) a.fd_Wheels_wheel_of
 F_Wheels_bits : FunD K "bits" "Wheels.bits" s_Wheels_bits a.f_Wheels_bits (.none) a.fd_Wheels_bits
 F_Wheels_moved : FunD K "moved" "Wheels.moved" s_Wheels_moved a.f_Wheels_moved (.none) a.fd_Wheels_moved
 F_Wheels_wheel_at : FunD K "wheel_at" "Wheels.wheel_at" s_Wheels_wheel_at a.f_Wheels_wheel_at (.none) a.fd_Wheels_wheel_at
 F_Wheels_enter : FunD K "enter" "Wheels.enter" s_Wheels_enter a.f_Wheels_enter (.none) a.fd_Wheels_enter
 F_Wheels_lie_down : FunD K "lie_down" "Wheels.lie_down" s_Wheels_lie_down a.f_Wheels_lie_down (.none) a.fd_Wheels_lie_down
 F_Wheels_pass_on : FunD K "pass_on" "Wheels.pass_on" s_Wheels_pass_on a.f_Wheels_pass_on (.none) a.fd_Wheels_pass_on
 F_Wheels_come_near : FunD K "come_near" "Wheels.come_near" s_Wheels_come_near a.f_Wheels_come_near (.none) a.fd_Wheels_come_near
 F__law_cell_at : FunD K "_law_cell_at" "_law_cell_at" s__law_cell_at a.f__law_cell_at (.none) a.fd__law_cell_at
 kp__law_cell_at : PySem.W.keepIn K (.ref a.f__law_cell_at) = true
 mg__law_cell_at : mg "_law_cell_at" = some (.ref a.f__law_cell_at)
 F__law_drawn : FunD K "_law_drawn" "_law_drawn" s__law_drawn a.f__law_drawn (.none) a.fd__law_drawn
 kp__law_drawn : PySem.W.keepIn K (.ref a.f__law_drawn) = true
 mg__law_drawn : mg "_law_drawn" = some (.ref a.f__law_drawn)
 F__law_draws : FunD K "_law_draws" "_law_draws" s__law_draws a.f__law_draws (.none) a.fd__law_draws
 kp__law_draws : PySem.W.keepIn K (.ref a.f__law_draws) = true
 mg__law_draws : mg "_law_draws" = some (.ref a.f__law_draws)
 F__law_word : FunD K "_law_word" "_law_word" s__law_word a.f__law_word (.none) a.fd__law_word
 kp__law_word : PySem.W.keepIn K (.ref a.f__law_word) = true
 mg__law_word : mg "_law_word" = some (.ref a.f__law_word)
 F__law_rounds : FunD K "_law_rounds" "_law_rounds" s__law_rounds a.f__law_rounds (.none) a.fd__law_rounds
 kp__law_rounds : PySem.W.keepIn K (.ref a.f__law_rounds) = true
 mg__law_rounds : mg "_law_rounds" = some (.ref a.f__law_rounds)
 F__law_name : FunD K "_law_name" "_law_name" s__law_name a.f__law_name (.none) a.fd__law_name
 kp__law_name : PySem.W.keepIn K (.ref a.f__law_name) = true
 mg__law_name : mg "_law_name" = some (.ref a.f__law_name)
 F__law_time : FunD K "_law_time" "_law_time" s__law_time a.f__law_time (.none) a.fd__law_time
 kp__law_time : PySem.W.keepIn K (.ref a.f__law_time) = true
 mg__law_time : mg "_law_time" = some (.ref a.f__law_time)
 F__law_things : FunD K "_law_things" "_law_things" s__law_things a.f__law_things (.none) a.fd__law_things
 kp__law_things : PySem.W.keepIn K (.ref a.f__law_things) = true
 mg__law_things : mg "_law_things" = some (.ref a.f__law_things)
 F__law_to : FunD K "_law_to" "_law_to" s__law_to a.f__law_to (.none) a.fd__law_to
 kp__law_to : PySem.W.keepIn K (.ref a.f__law_to) = true
 mg__law_to : mg "_law_to" = some (.ref a.f__law_to)
 F__law_made : FunD K "_law_made" "_law_made" s__law_made a.f__law_made (.none) a.fd__law_made
 kp__law_made : PySem.W.keepIn K (.ref a.f__law_made) = true
 mg__law_made : mg "_law_made" = some (.ref a.f__law_made)
 F__law_by_steps : FunD K "_law_by_steps" "_law_by_steps" s__law_by_steps a.f__law_by_steps (.none) a.fd__law_by_steps
 kp__law_by_steps : PySem.W.keepIn K (.ref a.f__law_by_steps) = true
 mg__law_by_steps : mg "_law_by_steps" = some (.ref a.f__law_by_steps)
 F__law_by_leasts : FunD K "_law_by_leasts" "_law_by_leasts" s__law_by_leasts a.f__law_by_leasts (.none) a.fd__law_by_leasts
 kp__law_by_leasts : PySem.W.keepIn K (.ref a.f__law_by_leasts) = true
 mg__law_by_leasts : mg "_law_by_leasts" = some (.ref a.f__law_by_leasts)
 F__law_lies_as : FunD K "_law_lies_as" "_law_lies_as" s__law_lies_as a.f__law_lies_as (.none) a.fd__law_lies_as
 kp__law_lies_as : PySem.W.keepIn K (.ref a.f__law_lies_as) = true
 mg__law_lies_as : mg "_law_lies_as" = some (.ref a.f__law_lies_as)
 F__law_fell : FunD K "_law_fell" "_law_fell" s__law_fell a.f__law_fell (.none) a.fd__law_fell
 kp__law_fell : PySem.W.keepIn K (.ref a.f__law_fell) = true
 mg__law_fell : mg "_law_fell" = some (.ref a.f__law_fell)
 F_law : FunD K "law" "law" s_law a.f_law (.none) a.fd_law
 mg_law : mg "law" = some (.ref a.f_law)
 mg_Waits : mg "Waits" = some (.ref a.C_Waits)
 mg_Wheel : mg "Wheel" = some (.ref a.C_Wheel)
 cl_Wheel : Cls K a.C_Wheel
 na_Wheel_unit : NoAttr K a.C_Wheel "unit"
 na_Wheel_slots : NoAttr K a.C_Wheel "slots"
 na_Wheel_span : NoAttr K a.C_Wheel "span"
 na_Wheel_mask : NoAttr K a.C_Wheel "mask"
 na_Wheel_names_in : NoAttr K a.C_Wheel "names_in"
 M_Wheel : Mk K a.C_Wheel a.f_Wheel___init__
 m_Wheel_holds : Meth K a.C_Wheel "holds" a.f_Wheel_holds
 m_Wheel_slot_of : Meth K a.C_Wheel "slot_of" a.f_Wheel_slot_of
 m_Wheel_lay_in : Meth K a.C_Wheel "lay_in" a.f_Wheel_lay_in
 m_Wheel_empty : Meth K a.C_Wheel "empty" a.f_Wheel_empty
 m_Wheel_let_out : Meth K a.C_Wheel "let_out" a.f_Wheel_let_out
 mg_Wheels : mg "Wheels" = some (.ref a.C_Wheels)
 cl_Wheels : Cls K a.C_Wheels
 na_Wheels_now : NoAttr K a.C_Wheels "now"
 na_Wheels_times : NoAttr K a.C_Wheels "times"
 na_Wheels_wheels : NoAttr K a.C_Wheels "wheels"
 na_Wheels_far : NoAttr K a.C_Wheels "far"
 na_Wheels_moves : NoAttr K a.C_Wheels "moves"
 M_Wheels : Mk K a.C_Wheels a.f_Wheels___init__
 m_Wheels_wheel_of : Meth K a.C_Wheels "wheel_of" a.f_Wheels_wheel_of
 m_Wheels_bits : Meth K a.C_Wheels "bits" a.f_Wheels_bits
 m_Wheels_moved : Meth K a.C_Wheels "moved" a.f_Wheels_moved
 m_Wheels_wheel_at : Meth K a.C_Wheels "wheel_at" a.f_Wheels_wheel_at
 m_Wheels_enter : Meth K a.C_Wheels "enter" a.f_Wheels_enter
 m_Wheels_lie_down : Meth K a.C_Wheels "lie_down" a.f_Wheels_lie_down
 m_Wheels_pass_on : Meth K a.C_Wheels "pass_on" a.f_Wheels_pass_on
 m_Wheels_come_near : Meth K a.C_Wheels "come_near" a.f_Wheels_come_near
 m_Wheels_put : Meth K a.C_Wheels "put" a.f_Waits_put
 m_Wheels_due : Meth K a.C_Wheels "due" a.f_Waits_due
 m_Wheels_least : Meth K a.C_Wheels "least" a.f_Waits_least
 m_Wheels_all_of : Meth K a.C_Wheels "all_of" a.f_Waits_all_of
 m_Wheels_check_waits : Meth K a.C_Wheels "check_waits" a.f_Waits_check_waits
 mg_NoBell : mg "NoBell" = some (.ref a.C_NoBell)
 mg_NoRounds : mg "NoRounds" = some (.ref a.C_NoRounds)
 x_NoRounds : ExcK K a.C_NoRounds
 mg_Past : mg "Past" = some (.ref a.C_Past)
 x_Past : ExcK K a.C_Past
 mg_Twice : mg "Twice" = some (.ref a.C_Twice)
 mg_WakeError : mg "WakeError" = some (.ref a.C_WakeError)
 n_NoBell : ExN K a.C_NoBell a.C_WakeError a.f_NoBell___init__
 n_Twice : ExN K a.C_Twice a.C_WakeError a.f_Twice___init__
 IB_WakeError : InitB K a.C_WakeError
 B_Waits___init__ : BaseM K a.C_Waits "__init__" a.f_Waits___init__
 mg_LEAST_ROUND : mg "LEAST_ROUND" = some (.int 2 a.tkG_LEAST_ROUND)
 mg_MOST_ROUND : mg "MOST_ROUND" = some (.int 60 a.tkG_MOST_ROUND)
 mg_MOST_WHEELS : mg "MOST_WHEELS" = some (.int 6 a.tkG_MOST_WHEELS)
 no_bool : mg "bool" = none
 no_enumerate : mg "enumerate" = none
 no_int : mg "int" = none
 no_isinstance : mg "isinstance" = none
 no_len : mg "len" = none
 no_list : mg "list" = none
 no_max : mg "max" = none
 no_min : mg "min" = none
 no_range : mg "range" = none
 no_sorted : mg "sorted" = none
theorem txt_mk {K : PySem.W.Frag} {h : Heap} {mg : Str -> Option Value} {f_Twice___init__ f_NoBell___init__ f_Waits___init__ dT_Waits___init__ f_Waits_put f_Waits_due f_Waits_least f_Waits_all_of f_Waits_check_waits f_is_whole f_check_rounds f_wheels_of f_place_in f_Wheel___init__ f_Wheel_holds f_Wheel_slot_of f_Wheel_lay_in f_Wheel_empty f_Wheel_let_out f_Wheels___init__ dT_Wheels___init__ f_Wheels_wheel_of f_Wheels_bits f_Wheels_moved f_Wheels_wheel_at f_Wheels_enter f_Wheels_lie_down f_Wheels_pass_on f_Wheels_come_near f__law_cell_at f__law_drawn f__law_draws f__law_word f__law_rounds f__law_name f__law_time f__law_things f__law_to f__law_made f__law_by_steps f__law_by_leasts f__law_lies_as f__law_fell f_law C_Waits C_Wheel C_Wheels C_NoBell C_NoRounds C_Past C_Twice C_WakeError : Addr} {tk_Waits___init___0 tk_Wheels___init___0 tkG_LEAST_ROUND tkG_MOST_ROUND tkG_MOST_WHEELS : Tok}  (X : K.In h) (G : h.Ns mainGlobals mg)
 (aC_Waits : PySem.W.nsIn K mainGlobals "Waits" = some (some (.ref C_Waits)))
 (aC_Wheel : PySem.W.nsIn K mainGlobals "Wheel" = some (some (.ref C_Wheel)))
 (aC_Wheels : PySem.W.nsIn K mainGlobals "Wheels" = some (some (.ref C_Wheels)))
 (aC_NoBell : PySem.W.nsIn K mainGlobals "NoBell" = some (some (.ref C_NoBell)))
 (aC_NoRounds : PySem.W.nsIn K mainGlobals "NoRounds" = some (some (.ref C_NoRounds)))
 (aC_Past : PySem.W.nsIn K mainGlobals "Past" = some (some (.ref C_Past)))
 (aC_Twice : PySem.W.nsIn K mainGlobals "Twice" = some (some (.ref C_Twice)))
 (aC_WakeError : PySem.W.nsIn K mainGlobals "WakeError" = some (some (.ref C_WakeError)))
 (hgg : PySem.W.specialIn K (.builtin "object.__class__") "__get__" = some (some (.builtin "getset_descriptor.__get__")))
 (htt : PySem.W.takesIn K (.builtin "object.__class__") = some true)
 (g_Twice___init__ : DefM K C_Twice "__init__" "Twice.__init__" s_Twice___init__ (.none) f_Twice___init__)
 (g_NoBell___init__ : DefM K C_NoBell "__init__" "NoBell.__init__" s_NoBell___init__ (.none) f_NoBell___init__)
 (g_Waits___init__ : DefM K C_Waits "__init__" "Waits.__init__" s_Waits___init__ (.ref dT_Waits___init__) f_Waits___init__)
 (t_Waits___init__ : DefT K dT_Waits___init__ #[(.int 0 tk_Waits___init___0)])
 (g_Waits_put : DefM K C_Waits "put" "Waits.put" s_Waits_put (.none) f_Waits_put)
 (g_Waits_due : DefM K C_Waits "due" "Waits.due" s_Waits_due (.none) f_Waits_due)
 (g_Waits_least : DefM K C_Waits "least" "Waits.least" s_Waits_least (.none) f_Waits_least)
 (g_Waits_all_of : DefM K C_Waits "all_of" "Waits.all_of" s_Waits_all_of (.none) f_Waits_all_of)
 (g_Waits_check_waits : DefM K C_Waits "check_waits" "Waits.check_waits" s_Waits_check_waits (.none) f_Waits_check_waits)
 (g_is_whole : DefG K "is_whole" "is_whole" s_is_whole (.none) f_is_whole)
 (g_check_rounds : DefG K "check_rounds" "check_rounds" s_check_rounds (.none) f_check_rounds)
 (g_wheels_of : DefG K "wheels_of" "wheels_of" s_wheels_of (.none) f_wheels_of)
 (g_place_in : DefG K "place_in" "place_in" s_place_in (.none) f_place_in)
 (g_Wheel___init__ : DefM K C_Wheel "__init__" "Wheel.__init__" s_Wheel___init__ (.none) f_Wheel___init__)
 (g_Wheel_holds : DefM K C_Wheel "holds" "Wheel.holds" s_Wheel_holds (.none) f_Wheel_holds)
 (g_Wheel_slot_of : DefM K C_Wheel "slot_of" "Wheel.slot_of" s_Wheel_slot_of (.none) f_Wheel_slot_of)
 (g_Wheel_lay_in : DefM K C_Wheel "lay_in" "Wheel.lay_in" s_Wheel_lay_in (.none) f_Wheel_lay_in)
 (g_Wheel_empty : DefM K C_Wheel "empty" "Wheel.empty" s_Wheel_empty (.none) f_Wheel_empty)
 (g_Wheel_let_out : DefM K C_Wheel "let_out" "Wheel.let_out" s_Wheel_let_out (.none) f_Wheel_let_out)
 (g_Wheels___init__ : DefM K C_Wheels "__init__" "Wheels.__init__" s_Wheels___init__ (.ref dT_Wheels___init__) f_Wheels___init__)
 (t_Wheels___init__ : DefT K dT_Wheels___init__ #[(.int 0 tk_Wheels___init___0)])
 (g_Wheels_wheel_of : DefM K C_Wheels "wheel_of" "Wheels.wheel_of" s_Wheels_wheel_of (.none) f_Wheels_wheel_of)
 (g_Wheels_bits : DefM K C_Wheels "bits" "Wheels.bits" s_Wheels_bits (.none) f_Wheels_bits)
 (g_Wheels_moved : DefM K C_Wheels "moved" "Wheels.moved" s_Wheels_moved (.none) f_Wheels_moved)
 (g_Wheels_wheel_at : DefM K C_Wheels "wheel_at" "Wheels.wheel_at" s_Wheels_wheel_at (.none) f_Wheels_wheel_at)
 (g_Wheels_enter : DefM K C_Wheels "enter" "Wheels.enter" s_Wheels_enter (.none) f_Wheels_enter)
 (g_Wheels_lie_down : DefM K C_Wheels "lie_down" "Wheels.lie_down" s_Wheels_lie_down (.none) f_Wheels_lie_down)
 (g_Wheels_pass_on : DefM K C_Wheels "pass_on" "Wheels.pass_on" s_Wheels_pass_on (.none) f_Wheels_pass_on)
 (g_Wheels_come_near : DefM K C_Wheels "come_near" "Wheels.come_near" s_Wheels_come_near (.none) f_Wheels_come_near)
 (g__law_cell_at : DefG K "_law_cell_at" "_law_cell_at" s__law_cell_at (.none) f__law_cell_at)
 (g__law_drawn : DefG K "_law_drawn" "_law_drawn" s__law_drawn (.none) f__law_drawn)
 (g__law_draws : DefG K "_law_draws" "_law_draws" s__law_draws (.none) f__law_draws)
 (g__law_word : DefG K "_law_word" "_law_word" s__law_word (.none) f__law_word)
 (g__law_rounds : DefG K "_law_rounds" "_law_rounds" s__law_rounds (.none) f__law_rounds)
 (g__law_name : DefG K "_law_name" "_law_name" s__law_name (.none) f__law_name)
 (g__law_time : DefG K "_law_time" "_law_time" s__law_time (.none) f__law_time)
 (g__law_things : DefG K "_law_things" "_law_things" s__law_things (.none) f__law_things)
 (g__law_to : DefG K "_law_to" "_law_to" s__law_to (.none) f__law_to)
 (g__law_made : DefG K "_law_made" "_law_made" s__law_made (.none) f__law_made)
 (g__law_by_steps : DefG K "_law_by_steps" "_law_by_steps" s__law_by_steps (.none) f__law_by_steps)
 (g__law_by_leasts : DefG K "_law_by_leasts" "_law_by_leasts" s__law_by_leasts (.none) f__law_by_leasts)
 (g__law_lies_as : DefG K "_law_lies_as" "_law_lies_as" s__law_lies_as (.none) f__law_lies_as)
 (g__law_fell : DefG K "_law_fell" "_law_fell" s__law_fell (.none) f__law_fell)
 (g_law : DefG K "law" "law" s_law (.none) f_law)
 (cl_Wheel : ClsK K C_Wheel)
 (na_Wheel_unit : PySem.W.findIn K (.ref C_Wheel) "unit" = some none)
 (na_Wheel_slots : PySem.W.findIn K (.ref C_Wheel) "slots" = some none)
 (na_Wheel_span : PySem.W.findIn K (.ref C_Wheel) "span" = some none)
 (na_Wheel_mask : PySem.W.findIn K (.ref C_Wheel) "mask" = some none)
 (na_Wheel_names_in : PySem.W.findIn K (.ref C_Wheel) "names_in" = some none)
 (mk_Wheel : PySem.W.makesIn K C_Wheel = true)
 (kc_Wheel : PySem.W.keepIn K (.ref C_Wheel) = true)
 (cl_Wheels : ClsK K C_Wheels)
 (na_Wheels_now : PySem.W.findIn K (.ref C_Wheels) "now" = some none)
 (na_Wheels_times : PySem.W.findIn K (.ref C_Wheels) "times" = some none)
 (na_Wheels_wheels : PySem.W.findIn K (.ref C_Wheels) "wheels" = some none)
 (na_Wheels_far : PySem.W.findIn K (.ref C_Wheels) "far" = some none)
 (na_Wheels_moves : PySem.W.findIn K (.ref C_Wheels) "moves" = some none)
 (mk_Wheels : PySem.W.makesIn K C_Wheels = true)
 (kc_Wheels : PySem.W.keepIn K (.ref C_Wheels) = true)
 (im_Wheels_put : PySem.W.findIn K (.ref C_Wheels) "put" = some (some (.ref f_Waits_put)))
 (im_Wheels_due : PySem.W.findIn K (.ref C_Wheels) "due" = some (some (.ref f_Waits_due)))
 (im_Wheels_least : PySem.W.findIn K (.ref C_Wheels) "least" = some (some (.ref f_Waits_least)))
 (im_Wheels_all_of : PySem.W.findIn K (.ref C_Wheels) "all_of" = some (some (.ref f_Waits_all_of)))
 (im_Wheels_check_waits : PySem.W.findIn K (.ref C_Wheels) "check_waits" = some (some (.ref f_Waits_check_waits)))
 (nl_NoBell : ExL K C_NoBell C_WakeError)
 (t2_NoBell : PySem.W.mroIn K C_NoBell (.type "object") = some true)
 (x_NoRounds : PySem.W.excIn K C_NoRounds [.type "ValueError", .type "Exception", .type "BaseException", .type "object"] "ValueError.__new__" = true)
 (x_Past : PySem.W.excIn K C_Past [.type "ValueError", .type "Exception", .type "BaseException", .type "object"] "ValueError.__new__" = true)
 (nl_Twice : ExL K C_Twice C_WakeError)
 (t2_Twice : PySem.W.mroIn K C_Twice (.type "object") = some true)
 (x_WakeError : PySem.W.excIn K C_WakeError [.type "ValueError", .type "Exception", .type "BaseException", .type "object"] "ValueError.__new__" = true)
 (ga_NoBell : PySem.W.findIn K (.ref C_NoBell) "__getattribute__" = some (some (.builtin "BaseException.__getattribute__")))
 (gn_NoBell : PySem.W.findIn K (.ref C_NoBell) "__getattr__" = some none)
 (mb_NoBell : PySem.W.mroIn K C_NoBell (.type "BaseException") = some true)
 (hd_NoBell : PySem.W.hasDictIn K C_NoBell = true)
 (t1_NoBell : PySem.W.findIn K (.ref C_NoBell) "__class__" = some (some (.builtin "object.__class__")))
 (sa_NoBell : PySem.W.findIn K (.ref C_NoBell) "__setattr__" = some (some (.builtin "object.__setattr__")))
 (tn_NoBell : PySem.W.takerIn K C_NoBell "name" = some none)
 (fn_NoBell : PySem.W.findIn K (.ref C_NoBell) "name" = some none)
 (ga_Twice : PySem.W.findIn K (.ref C_Twice) "__getattribute__" = some (some (.builtin "BaseException.__getattribute__")))
 (gn_Twice : PySem.W.findIn K (.ref C_Twice) "__getattr__" = some none)
 (mb_Twice : PySem.W.mroIn K C_Twice (.type "BaseException") = some true)
 (hd_Twice : PySem.W.hasDictIn K C_Twice = true)
 (t1_Twice : PySem.W.findIn K (.ref C_Twice) "__class__" = some (some (.builtin "object.__class__")))
 (sa_Twice : PySem.W.findIn K (.ref C_Twice) "__setattr__" = some (some (.builtin "object.__setattr__")))
 (tn_Twice : PySem.W.takerIn K C_Twice "name" = some none)
 (fn_Twice : PySem.W.findIn K (.ref C_Twice) "name" = some none)
 (ib1_WakeError : PySem.W.specialIn K (.ref C_WakeError) "__getattribute__" = some (some (.builtin "type.__getattribute__")))
 (ib2_WakeError : PySem.W.readsIn K C_WakeError (.type "type") = true)
 (ib3_WakeError : PySem.W.findCls K (.ref C_WakeError) (.type "type") "__init__" = some (.val (.builtin "ValueError.__init__")))
 (b1_Waits___init__ : PySem.W.specialIn K (.ref C_Waits) "__getattribute__" = some (some (.builtin "type.__getattribute__")))
 (b2_Waits___init__ : PySem.W.readsIn K C_Waits (.type "type") = true)
 (b3_Waits___init__ : PySem.W.findCls K (.ref C_Waits) (.type "type") "__init__" = some (.val (.ref f_Waits___init__)))
 (aG_LEAST_ROUND : PySem.W.nsIn K mainGlobals "LEAST_ROUND" = some (some (.int 2 tkG_LEAST_ROUND)))
 (aG_MOST_ROUND : PySem.W.nsIn K mainGlobals "MOST_ROUND" = some (some (.int 60 tkG_MOST_ROUND)))
 (aG_MOST_WHEELS : PySem.W.nsIn K mainGlobals "MOST_WHEELS" = some (some (.int 6 tkG_MOST_WHEELS)))
 (no_bool : PySem.W.nsIn K mainGlobals "bool" = some none)
 (no_enumerate : PySem.W.nsIn K mainGlobals "enumerate" = some none)
 (no_int : PySem.W.nsIn K mainGlobals "int" = some none)
 (no_isinstance : PySem.W.nsIn K mainGlobals "isinstance" = some none)
 (no_len : PySem.W.nsIn K mainGlobals "len" = some none)
 (no_list : PySem.W.nsIn K mainGlobals "list" = some none)
 (no_max : PySem.W.nsIn K mainGlobals "max" = some none)
 (no_min : PySem.W.nsIn K mainGlobals "min" = some none)
 (no_range : PySem.W.nsIn K mainGlobals "range" = some none)
 (no_sorted : PySem.W.nsIn K mainGlobals "sorted" = some none)
 : ∃ a : Ad, a.f_law = a.f_law /\ Txt K mg a :=
 ⟨⟨f_Twice___init__, g_Twice___init__.l.choose, f_NoBell___init__, g_NoBell___init__.l.choose, f_Waits___init__, g_Waits___init__.l.choose, dT_Waits___init__, tk_Waits___init___0, f_Waits_put, g_Waits_put.l.choose, f_Waits_due, g_Waits_due.l.choose, f_Waits_least, g_Waits_least.l.choose, f_Waits_all_of, g_Waits_all_of.l.choose, f_Waits_check_waits, g_Waits_check_waits.l.choose, f_is_whole, g_is_whole.l.choose, f_check_rounds, g_check_rounds.l.choose, f_wheels_of, g_wheels_of.l.choose, f_place_in, g_place_in.l.choose, f_Wheel___init__, g_Wheel___init__.l.choose, f_Wheel_holds, g_Wheel_holds.l.choose, f_Wheel_slot_of, g_Wheel_slot_of.l.choose, f_Wheel_lay_in, g_Wheel_lay_in.l.choose, f_Wheel_empty, g_Wheel_empty.l.choose, f_Wheel_let_out, g_Wheel_let_out.l.choose, f_Wheels___init__, g_Wheels___init__.l.choose, dT_Wheels___init__, tk_Wheels___init___0, f_Wheels_wheel_of, g_Wheels_wheel_of.l.choose, f_Wheels_bits, g_Wheels_bits.l.choose, f_Wheels_moved, g_Wheels_moved.l.choose, f_Wheels_wheel_at, g_Wheels_wheel_at.l.choose, f_Wheels_enter, g_Wheels_enter.l.choose, f_Wheels_lie_down, g_Wheels_lie_down.l.choose, f_Wheels_pass_on, g_Wheels_pass_on.l.choose, f_Wheels_come_near, g_Wheels_come_near.l.choose, f__law_cell_at, g__law_cell_at.l.choose, f__law_drawn, g__law_drawn.l.choose, f__law_draws, g__law_draws.l.choose, f__law_word, g__law_word.l.choose, f__law_rounds, g__law_rounds.l.choose, f__law_name, g__law_name.l.choose, f__law_time, g__law_time.l.choose, f__law_things, g__law_things.l.choose, f__law_to, g__law_to.l.choose, f__law_made, g__law_made.l.choose, f__law_by_steps, g__law_by_steps.l.choose, f__law_by_leasts, g__law_by_leasts.l.choose, f__law_lies_as, g__law_lies_as.l.choose, f__law_fell, g__law_fell.l.choose, f_law, g_law.l.choose, C_Waits, C_Wheel, C_Wheels, C_NoBell, C_NoRounds, C_Past, C_Twice, C_WakeError, tkG_LEAST_ROUND, tkG_MOST_ROUND, tkG_MOST_WHEELS⟩, rfl, {
   F_Twice___init__ := g_Twice___init__.l.choose_spec,
   F_NoBell___init__ := g_NoBell___init__.l.choose_spec,
   F_Waits___init__ := g_Waits___init__.l.choose_spec,
   D_Waits___init__ := t_Waits___init__,
   F_Waits_put := g_Waits_put.l.choose_spec,
   F_Waits_due := g_Waits_due.l.choose_spec,
   F_Waits_least := g_Waits_least.l.choose_spec,
   F_Waits_all_of := g_Waits_all_of.l.choose_spec,
   F_Waits_check_waits := g_Waits_check_waits.l.choose_spec,
   F_is_whole := g_is_whole.l.choose_spec,
   kp_is_whole := g_is_whole.k,
   mg_is_whole := PySem.W.mg_of X G g_is_whole.a,
   F_check_rounds := g_check_rounds.l.choose_spec,
   kp_check_rounds := g_check_rounds.k,
   mg_check_rounds := PySem.W.mg_of X G g_check_rounds.a,
   F_wheels_of := g_wheels_of.l.choose_spec,
   kp_wheels_of := g_wheels_of.k,
   mg_wheels_of := PySem.W.mg_of X G g_wheels_of.a,
   F_place_in := g_place_in.l.choose_spec,
   kp_place_in := g_place_in.k,
   mg_place_in := PySem.W.mg_of X G g_place_in.a,
   F_Wheel___init__ := g_Wheel___init__.l.choose_spec,
   F_Wheel_holds := g_Wheel_holds.l.choose_spec,
   F_Wheel_slot_of := g_Wheel_slot_of.l.choose_spec,
   F_Wheel_lay_in := g_Wheel_lay_in.l.choose_spec,
   F_Wheel_empty := g_Wheel_empty.l.choose_spec,
   F_Wheel_let_out := g_Wheel_let_out.l.choose_spec,
   F_Wheels___init__ := g_Wheels___init__.l.choose_spec,
   D_Wheels___init__ := t_Wheels___init__,
   F_Wheels_wheel_of := g_Wheels_wheel_of.l.choose_spec,
   F_Wheels_bits := g_Wheels_bits.l.choose_spec,
   F_Wheels_moved := g_Wheels_moved.l.choose_spec,
   F_Wheels_wheel_at := g_Wheels_wheel_at.l.choose_spec,
   F_Wheels_enter := g_Wheels_enter.l.choose_spec,
   F_Wheels_lie_down := g_Wheels_lie_down.l.choose_spec,
   F_Wheels_pass_on := g_Wheels_pass_on.l.choose_spec,
   F_Wheels_come_near := g_Wheels_come_near.l.choose_spec,
   F__law_cell_at := g__law_cell_at.l.choose_spec,
   kp__law_cell_at := g__law_cell_at.k,
   mg__law_cell_at := PySem.W.mg_of X G g__law_cell_at.a,
   F__law_drawn := g__law_drawn.l.choose_spec,
   kp__law_drawn := g__law_drawn.k,
   mg__law_drawn := PySem.W.mg_of X G g__law_drawn.a,
   F__law_draws := g__law_draws.l.choose_spec,
   kp__law_draws := g__law_draws.k,
   mg__law_draws := PySem.W.mg_of X G g__law_draws.a,
   F__law_word := g__law_word.l.choose_spec,
   kp__law_word := g__law_word.k,
   mg__law_word := PySem.W.mg_of X G g__law_word.a,
   F__law_rounds := g__law_rounds.l.choose_spec,
   kp__law_rounds := g__law_rounds.k,
   mg__law_rounds := PySem.W.mg_of X G g__law_rounds.a,
   F__law_name := g__law_name.l.choose_spec,
   kp__law_name := g__law_name.k,
   mg__law_name := PySem.W.mg_of X G g__law_name.a,
   F__law_time := g__law_time.l.choose_spec,
   kp__law_time := g__law_time.k,
   mg__law_time := PySem.W.mg_of X G g__law_time.a,
   F__law_things := g__law_things.l.choose_spec,
   kp__law_things := g__law_things.k,
   mg__law_things := PySem.W.mg_of X G g__law_things.a,
   F__law_to := g__law_to.l.choose_spec,
   kp__law_to := g__law_to.k,
   mg__law_to := PySem.W.mg_of X G g__law_to.a,
   F__law_made := g__law_made.l.choose_spec,
   kp__law_made := g__law_made.k,
   mg__law_made := PySem.W.mg_of X G g__law_made.a,
   F__law_by_steps := g__law_by_steps.l.choose_spec,
   kp__law_by_steps := g__law_by_steps.k,
   mg__law_by_steps := PySem.W.mg_of X G g__law_by_steps.a,
   F__law_by_leasts := g__law_by_leasts.l.choose_spec,
   kp__law_by_leasts := g__law_by_leasts.k,
   mg__law_by_leasts := PySem.W.mg_of X G g__law_by_leasts.a,
   F__law_lies_as := g__law_lies_as.l.choose_spec,
   kp__law_lies_as := g__law_lies_as.k,
   mg__law_lies_as := PySem.W.mg_of X G g__law_lies_as.a,
   F__law_fell := g__law_fell.l.choose_spec,
   kp__law_fell := g__law_fell.k,
   mg__law_fell := PySem.W.mg_of X G g__law_fell.a,
   F_law := g_law.l.choose_spec,
   mg_law := PySem.W.mg_of X G g_law.a,
   mg_Waits := PySem.W.mg_of X G aC_Waits,
   mg_Wheel := PySem.W.mg_of X G aC_Wheel,
   cl_Wheel := ⟨cl_Wheel.pg, cl_Wheel.hd, cl_Wheel.po, cl_Wheel.sa⟩,
   na_Wheel_unit := na_Wheel_unit,
   na_Wheel_slots := na_Wheel_slots,
   na_Wheel_span := na_Wheel_span,
   na_Wheel_mask := na_Wheel_mask,
   na_Wheel_names_in := na_Wheel_names_in,
   M_Wheel := ⟨mk_Wheel, g_Wheel___init__.a, g_Wheel___init__.i, kc_Wheel⟩,
   m_Wheel_holds := ⟨g_Wheel_holds.a, g_Wheel_holds.i, g_Wheel_holds.k⟩,
   m_Wheel_slot_of := ⟨g_Wheel_slot_of.a, g_Wheel_slot_of.i, g_Wheel_slot_of.k⟩,
   m_Wheel_lay_in := ⟨g_Wheel_lay_in.a, g_Wheel_lay_in.i, g_Wheel_lay_in.k⟩,
   m_Wheel_empty := ⟨g_Wheel_empty.a, g_Wheel_empty.i, g_Wheel_empty.k⟩,
   m_Wheel_let_out := ⟨g_Wheel_let_out.a, g_Wheel_let_out.i, g_Wheel_let_out.k⟩,
   mg_Wheels := PySem.W.mg_of X G aC_Wheels,
   cl_Wheels := ⟨cl_Wheels.pg, cl_Wheels.hd, cl_Wheels.po, cl_Wheels.sa⟩,
   na_Wheels_now := na_Wheels_now,
   na_Wheels_times := na_Wheels_times,
   na_Wheels_wheels := na_Wheels_wheels,
   na_Wheels_far := na_Wheels_far,
   na_Wheels_moves := na_Wheels_moves,
   M_Wheels := ⟨mk_Wheels, g_Wheels___init__.a, g_Wheels___init__.i, kc_Wheels⟩,
   m_Wheels_wheel_of := ⟨g_Wheels_wheel_of.a, g_Wheels_wheel_of.i, g_Wheels_wheel_of.k⟩,
   m_Wheels_bits := ⟨g_Wheels_bits.a, g_Wheels_bits.i, g_Wheels_bits.k⟩,
   m_Wheels_moved := ⟨g_Wheels_moved.a, g_Wheels_moved.i, g_Wheels_moved.k⟩,
   m_Wheels_wheel_at := ⟨g_Wheels_wheel_at.a, g_Wheels_wheel_at.i, g_Wheels_wheel_at.k⟩,
   m_Wheels_enter := ⟨g_Wheels_enter.a, g_Wheels_enter.i, g_Wheels_enter.k⟩,
   m_Wheels_lie_down := ⟨g_Wheels_lie_down.a, g_Wheels_lie_down.i, g_Wheels_lie_down.k⟩,
   m_Wheels_pass_on := ⟨g_Wheels_pass_on.a, g_Wheels_pass_on.i, g_Wheels_pass_on.k⟩,
   m_Wheels_come_near := ⟨g_Wheels_come_near.a, g_Wheels_come_near.i, g_Wheels_come_near.k⟩,
   m_Wheels_put := ⟨im_Wheels_put, g_Waits_put.i, g_Waits_put.k⟩,
   m_Wheels_due := ⟨im_Wheels_due, g_Waits_due.i, g_Waits_due.k⟩,
   m_Wheels_least := ⟨im_Wheels_least, g_Waits_least.i, g_Waits_least.k⟩,
   m_Wheels_all_of := ⟨im_Wheels_all_of, g_Waits_all_of.i, g_Waits_all_of.k⟩,
   m_Wheels_check_waits := ⟨im_Wheels_check_waits, g_Waits_check_waits.i, g_Waits_check_waits.k⟩,
   mg_NoBell := PySem.W.mg_of X G aC_NoBell,
   mg_NoRounds := PySem.W.mg_of X G aC_NoRounds,
   x_NoRounds := x_NoRounds,
   mg_Past := PySem.W.mg_of X G aC_Past,
   x_Past := x_Past,
   mg_Twice := PySem.W.mg_of X G aC_Twice,
   mg_WakeError := PySem.W.mg_of X G aC_WakeError,
   n_NoBell := ⟨nl_NoBell.ex, x_WakeError, g_NoBell___init__.a, g_NoBell___init__.i, ⟨ga_NoBell, gn_NoBell, mb_NoBell, hd_NoBell, ⟨t1_NoBell, hgg, htt, t2_NoBell⟩⟩, sa_NoBell, tn_NoBell, fn_NoBell⟩,
   n_Twice := ⟨nl_Twice.ex, x_WakeError, g_Twice___init__.a, g_Twice___init__.i, ⟨ga_Twice, gn_Twice, mb_Twice, hd_Twice, ⟨t1_Twice, hgg, htt, t2_Twice⟩⟩, sa_Twice, tn_Twice, fn_Twice⟩,
   IB_WakeError := ⟨ib1_WakeError, ib2_WakeError, ib3_WakeError⟩,
   B_Waits___init__ := ⟨b1_Waits___init__, b2_Waits___init__, b3_Waits___init__, g_Waits___init__.k⟩,
   mg_LEAST_ROUND := PySem.W.mg_of X G aG_LEAST_ROUND,
   mg_MOST_ROUND := PySem.W.mg_of X G aG_MOST_ROUND,
   mg_MOST_WHEELS := PySem.W.mg_of X G aG_MOST_WHEELS,
   no_bool := PySem.W.mg_none_of X G no_bool,
   no_enumerate := PySem.W.mg_none_of X G no_enumerate,
   no_int := PySem.W.mg_none_of X G no_int,
   no_isinstance := PySem.W.mg_none_of X G no_isinstance,
   no_len := PySem.W.mg_none_of X G no_len,
   no_list := PySem.W.mg_none_of X G no_list,
   no_max := PySem.W.mg_none_of X G no_max,
   no_min := PySem.W.mg_none_of X G no_min,
   no_range := PySem.W.mg_none_of X G no_range,
   no_sorted := PySem.W.mg_none_of X G no_sorted
 }⟩
theorem Txt.o_NoBell {K : PySem.W.Frag} {mg : Str -> Option Value} {a : Ad} (T : Txt K mg a) : ExcO K a.C_NoBell := ExN.o T.n_NoBell
theorem Txt.o_Twice {K : PySem.W.Frag} {mg : Str -> Option Value} {a : Ad} (T : Txt K mg a) : ExcO K a.C_Twice := ExN.o T.n_Twice
def sp_law (K : PySem.W.Frag) : Sp := fun vs H Q _ => ∃ (l : Addr) (ns : List Int), vs = [.ref l] /\ SqL K H l (ns.map V.int) /\ ns.length <= 63 /\ ∀ H', Q (.bl true) H'
theorem nd_len {α : Type} [DecidableEq α] : ∀ {l l' : List α}, l.Nodup -> (∀ x ∈ l, x ∈ l') -> l.length <= l'.length
 | [], _, _, _ => Nat.zero_le _
 | a :: l, l', h, hs => by
   rw [List.nodup_cons] at h
   have ha := hs a List.mem_cons_self
   have := nd_len (l := l) (l' := l'.erase a) h.2 fun x hx => (List.mem_erase_of_ne (fun z : x = a => h.1 (z ▸ hx))).mpr (hs x (List.mem_cons_of_mem _ hx))
   rw [List.length_erase_of_mem ha] at this
   have := List.length_pos_of_mem ha
   simp only [List.length_cons]
   omega
theorem nd_repl {α : Type} {A B X Y : List α} (h : (A ++ (X ++ B)).Nodup) (hy : Y.Nodup) (hs : ∀ b ∈ Y, b ∈ X \/ (b ∉ A /\ b ∉ B)) : (A ++ (Y ++ B)).Nodup := by
 simp only [List.nodup_append, List.mem_append] at h ⊢
 obtain ⟨h1, ⟨h2, h3, h4⟩, h5⟩ := h
 refine ⟨h1, ⟨hy, h3, fun a ha b hb e => ?_⟩, fun a ha b hb e => ?_⟩
 . rcases hs a ha with q | ⟨_, q⟩
   . exact h4 a q b hb e
   . exact q (e ▸ hb)
 . rcases hb with hb | hb
   . rcases hs b hb with q | ⟨q, _⟩
     . exact h5 a ha b (.inl q) e
     . exact q (e ▸ ha)
   . exact h5 a ha b (.inr hb) e
theorem mv_sub {S S' : List Addr} {H H' : Hp} (m : Mv S H H') (h : ∀ b ∈ S, b ∈ S') : Mv S' H H' := ⟨fun a o n e => m.kp a o (fun z => n (h a z)) e, m.tp, m.dm⟩
def wAt (us : List (Int × Int)) (t n : Int) : Nat := us.findIdx fun q => decide (t / (q.1 * q.2) = n / (q.1 * q.2))
theorem wAt_le (us : List (Int × Int)) (t n : Int) : wAt us t n <= us.length := List.findIdx_le_length
theorem wAt_not {us : List (Int × Int)} {t n : Int} {k : Nat} {q : Int × Int} (h : k < wAt us t n) (hq : us[k]? = some q) : ¬ t / (q.1 * q.2) = n / (q.1 * q.2) := by
 obtain ⟨hk, rfl⟩ := List.getElem?_eq_some_iff.mp hq
 have := List.not_of_lt_findIdx h
 simpa using this
theorem wAt_yes {us : List (Int × Int)} {t n : Int} {q : Int × Int} (hq : us[wAt us t n]? = some q) : t / (q.1 * q.2) = n / (q.1 * q.2) := by
 obtain ⟨hk, rfl⟩ := List.getElem?_eq_some_iff.mp hq
 have := List.findIdx_getElem (w := hk)
 unfold wAt
 simpa using this
theorem wAt_eq {us : List (Int × Int)} {t n : Int} {k : Nat} (h1 : ∀ j q, j < k -> us[j]? = some q -> ¬ t / (q.1 * q.2) = n / (q.1 * q.2)) (h2 : k = us.length \/ ∃ q, us[k]? = some q /\ t / (q.1 * q.2) = n / (q.1 * q.2)) : wAt us t n = k := by
 have hle := wAt_le us t n
 have hk : k <= us.length := by
  rcases h2 with h | ⟨q, h, _⟩
  . omega
  . exact Nat.le_of_lt (List.getElem?_eq_some_iff.mp h).1
 by_cases c : wAt us t n < k
 . have hl : wAt us t n < us.length := by omega
   exact absurd (wAt_yes (List.getElem?_eq_getElem hl)) (h1 _ _ c (List.getElem?_eq_getElem hl))
 . by_cases c2 : k < wAt us t n
   . rcases h2 with h | ⟨q, h, e⟩
     . omega
     . exact absurd e (wAt_not c2 h)
   . omega
structure Sl where
 k : Int
 p : Addr
 ns : List Str
structure Wh where
 x : Addr
 dn : Addr
 u : Int
 s : Int
 m : Int
 cs : List Sl
structure Geo where
 q : Addr
 f : Addr
 ws : List Wh
 far : List (Int × Str)
def MaskOk (w : Wh) : Prop := 0 <= w.m /\ ∀ i : Nat, w.m.toNat.testBit i = w.cs.any fun c => decide (c.k = (i : Int))
structure WhI (w : Wh) (B : Str -> Int -> Prop) : Prop where
 mk' : MaskOk w
 nd : (w.cs.map (·.k)).Nodup
 ne : ∀ c ∈ w.cs, c.ns ≠ [] /\ c.ns.Nodup /\ 0 <= c.k /\ c.k < w.s
 mem : ∀ n j, (∃ c ∈ w.cs, c.k = j /\ n ∈ c.ns) ↔ B n j
theorem WhI.congr {w : Wh} {B B' : Str -> Int -> Prop} (h : WhI w B) (e : ∀ n j, B n j ↔ B' n j) : WhI w B' := ⟨h.mk', h.nd, h.ne, fun n j => (h.mem n j).trans (e n j)⟩
def putS (slot : Int) (x : Str) (c : Sl) : Sl := if c.k = slot then ⟨c.k, c.p, c.ns ++ [x]⟩ else c
def layS (cs : List Sl) (slot : Int) (pd : Addr) (x : Str) : List Sl := if (cs.any fun c => decide (c.k = slot)) = true then cs.map (putS slot x) else cs ++ [⟨slot, pd, [x]⟩]
def dropS (cs : List Sl) (slot : Int) : List Sl := cs.filter fun c => !decide (c.k = slot)
theorem putS_k (slot : Int) (x : Str) (c : Sl) : (putS slot x c).k = c.k := by unfold putS; split <;> rfl
theorem putS_p (slot : Int) (x : Str) (c : Sl) : (putS slot x c).p = c.p := by unfold putS; split <;> rfl
theorem any_k {cs : List Sl} {slot : Int} : (cs.any fun c => decide (c.k = slot)) = true ↔ ∃ c ∈ cs, c.k = slot := by
 rw [List.any_eq_true]
 exact ⟨fun ⟨c, h1, h2⟩ => ⟨c, h1, of_decide_eq_true h2⟩, fun ⟨c, h1, h2⟩ => ⟨c, h1, decide_eq_true h2⟩⟩
theorem WhI.lay {w : Wh} {B : Str -> Int -> Prop} {x : Str} {slot m : Int} {pd : Addr} (h : WhI w B) (hx : ∀ j, ¬ B x j) (h0 : 0 <= slot) (h1 : slot < w.s) (hm : MaskOk ⟨w.x, w.dn, w.u, w.s, m, layS w.cs slot pd x⟩) :
 WhI ⟨w.x, w.dn, w.u, w.s, m, layS w.cs slot pd x⟩ (fun y j => B y j \/ (y = x /\ j = slot)) := by
 have hnx : ∀ c ∈ w.cs, x ∉ c.ns := fun c hc hm => hx c.k ((h.mem x c.k).mp ⟨c, hc, rfl, hm⟩)
 by_cases e : (w.cs.any fun c => decide (c.k = slot)) = true
 . have el : layS w.cs slot pd x = w.cs.map (putS slot x) := if_pos e
   refine ⟨hm, ?_, fun c hc => ?_, fun n j => ?_⟩
   . show ((layS w.cs slot pd x).map _).Nodup
     rw [el, List.map_map, show (Sl.k ∘ putS slot x) = Sl.k from funext (putS_k slot x)]; exact h.nd
   . have hc : c ∈ layS w.cs slot pd x := hc
     rw [el] at hc
     obtain ⟨c0, hc0, rfl⟩ := List.mem_map.mp hc
     obtain ⟨a1, a2, a3, a4⟩ := h.ne c0 hc0
     rw [putS_k]
     unfold putS
     split
     . refine ⟨by simp, ?_, a3, a4⟩
       show (c0.ns ++ [x]).Nodup
       rw [List.nodup_append]
       refine ⟨a2, by simp, fun a ha b hb => ?_⟩
       have hb : b = x := by simpa using hb
       exact fun z => hnx c0 hc0 (hb ▸ z ▸ ha)
     . exact ⟨a1, a2, a3, a4⟩
   . show (∃ c ∈ layS w.cs slot pd x, _) ↔ _
     rw [el]
     constructor
     . rintro ⟨c, hc, hk, hn⟩
       obtain ⟨c0, hc0, rfl⟩ := List.mem_map.mp hc
       rw [putS_k] at hk
       unfold putS at hn
       split at hn
       . rename_i hs
         rcases List.mem_append.mp hn with hn | hn
         . exact .inl ((h.mem n j).mp ⟨c0, hc0, hk, hn⟩)
         . exact .inr ⟨by simpa using hn, by rw [<- hk, hs]⟩
       . exact .inl ((h.mem n j).mp ⟨c0, hc0, hk, hn⟩)
     . rintro (hb | ⟨rfl, rfl⟩)
       . obtain ⟨c0, hc0, hk, hn⟩ := (h.mem n j).mpr hb
         refine ⟨_, List.mem_map_of_mem hc0, by rw [putS_k]; exact hk, ?_⟩
         unfold putS
         split
         . exact List.mem_append_left _ hn
         . exact hn
       . obtain ⟨c0, hc0, hk⟩ := any_k.mp e
         refine ⟨_, List.mem_map_of_mem hc0, by rw [putS_k]; exact hk, ?_⟩
         unfold putS
         rw [if_pos hk]
         simp
 . have el : layS w.cs slot pd x = w.cs ++ [⟨slot, pd, [x]⟩] := if_neg e
   have hno : ∀ c ∈ w.cs, c.k ≠ slot := fun c hc z => e (any_k.mpr ⟨c, hc, z⟩)
   refine ⟨hm, ?_, fun c hc => ?_, fun n j => ?_⟩
   . show ((layS w.cs slot pd x).map _).Nodup
     rw [el, List.map_append, List.nodup_append]
     refine ⟨h.nd, by simp, fun a ha b hb => ?_⟩
     obtain ⟨c, hc, rfl⟩ := List.mem_map.mp ha
     have hb : b = slot := by simpa using hb
     rw [hb]; exact hno c hc
   . have hc : c ∈ layS w.cs slot pd x := hc
     rw [el] at hc
     rcases List.mem_append.mp hc with hc | hc
     . exact h.ne c hc
     . have hc : c = ⟨slot, pd, [x]⟩ := by simpa using hc
       subst hc
       exact ⟨by simp, by simp, h0, h1⟩
   . show (∃ c ∈ layS w.cs slot pd x, _) ↔ _
     rw [el]
     constructor
     . rintro ⟨c, hc, hk, hn⟩
       rcases List.mem_append.mp hc with hc | hc
       . exact .inl ((h.mem n j).mp ⟨c, hc, hk, hn⟩)
       . have hc : c = ⟨slot, pd, [x]⟩ := by simpa using hc
         subst hc
         exact .inr ⟨by simpa using hn, hk.symm⟩
     . rintro (hb | ⟨rfl, rfl⟩)
       . obtain ⟨c, hc, hk, hn⟩ := (h.mem n j).mpr hb
         exact ⟨c, List.mem_append_left _ hc, hk, hn⟩
       . exact ⟨⟨j, pd, [n]⟩, List.mem_append_right _ (by simp), rfl, by simp⟩
theorem any_slot {cs cs' : List Sl} {i : Nat} (h : (∃ c ∈ cs, c.k = (i : Int)) ↔ ∃ c ∈ cs', c.k = (i : Int)) : (cs.any fun c => decide (c.k = (i : Int))) = cs'.any fun c => decide (c.k = (i : Int)) := by
 rw [Bool.eq_iff_iff, any_k, any_k]; exact h
def Wh.layed (w : Wh) (slot m : Int) (pd : Addr) (x : Str) : Wh := ⟨w.x, w.dn, w.u, w.s, m, layS w.cs slot pd x⟩
def Wh.emptied (w : Wh) (slot m : Int) : Wh := ⟨w.x, w.dn, w.u, w.s, m, dropS w.cs slot⟩
theorem layS_keys {cs : List Sl} {slot : Int} {pd : Addr} {x : Str} {j : Int} : (∃ c ∈ layS cs slot pd x, c.k = j) ↔ (∃ c ∈ cs, c.k = j) \/ j = slot := by
 unfold layS
 split
 . rename_i h
   constructor
   . rintro ⟨c, hc, e⟩
     obtain ⟨c0, hc0, rfl⟩ := List.mem_map.mp hc
     rw [putS_k] at e
     exact .inl ⟨c0, hc0, e⟩
   . rintro (⟨c, hc, e⟩ | rfl)
     . exact ⟨_, List.mem_map_of_mem hc, by rw [putS_k]; exact e⟩
     . obtain ⟨c, hc, e⟩ := any_k.mp h
       exact ⟨_, List.mem_map_of_mem hc, by rw [putS_k]; exact e⟩
 . constructor
   . rintro ⟨c, hc, e⟩
     rcases List.mem_append.mp hc with hc | hc
     . exact .inl ⟨c, hc, e⟩
     . have : c = ⟨slot, pd, [x]⟩ := by simpa using hc
       subst this
       exact .inr e.symm
   . rintro (⟨c, hc, e⟩ | rfl)
     . exact ⟨c, List.mem_append_left _ hc, e⟩
     . exact ⟨_, List.mem_append_right _ (List.mem_singleton.mpr rfl), rfl⟩
theorem mask_lay {w : Wh} {slot : Int} {pd : Addr} {x : Str} (h : MaskOk w) (h0 : 0 <= slot) : MaskOk (w.layed slot (Builtin.bitOr w.m (1 * 2 ^ slot.toNat)) pd x) := by
 have hy : (0 : Int) <= 1 * 2 ^ slot.toNat := by rw [Int.one_mul]; exact Int.le_of_lt (Int.pow_pos (by decide))
 have e := bitOr_nat h.1 hy
 refine ⟨by show 0 <= Builtin.bitOr w.m (1 * 2 ^ slot.toNat); rw [e]; omega, fun i => ?_⟩
 show (Builtin.bitOr w.m (1 * 2 ^ slot.toNat)).toNat.testBit i = (layS w.cs slot pd x).any _
 rw [e, Int.toNat_natCast, pow_toNat, Nat.testBit_or, Nat.testBit_two_pow, h.2 i, Bool.eq_iff_iff, Bool.or_eq_true, any_k, any_k, layS_keys, decide_eq_true_eq]
 refine or_congr Iff.rfl ⟨fun z => by omega, fun z => by omega⟩
theorem mask_empty {w : Wh} {slot : Int} {c : Sl} (h : MaskOk w) (h0 : 0 <= slot) (hc : c ∈ w.cs) (hk : c.k = slot) : MaskOk (w.emptied slot (Builtin.bitXor w.m (1 * 2 ^ slot.toNat))) := by
 have hb : w.m.toNat.testBit slot.toNat = true := by rw [h.2]; exact any_k.mpr ⟨c, hc, by omega⟩
 have e := bitXor_pow h.1 hb
 refine ⟨by show 0 <= Builtin.bitXor w.m (1 * 2 ^ slot.toNat); rw [e]; omega, fun i => ?_⟩
 show (Builtin.bitXor w.m (1 * 2 ^ slot.toNat)).toNat.testBit i = (dropS w.cs slot).any _
 rw [e, Int.toNat_natCast, testBit_sub hb, h.2 i, Bool.eq_iff_iff, Bool.and_eq_true, any_k, any_k, decide_eq_true_eq]
 unfold dropS
 constructor
 . rintro ⟨⟨d, hd, e1⟩, e2⟩
   exact ⟨d, List.mem_filter.mpr ⟨hd, by simp; omega⟩, e1⟩
 . rintro ⟨d, hd, e1⟩
   obtain ⟨hd1, hd2⟩ := List.mem_filter.mp hd
   have hd2 : ¬ d.k = slot := by simpa using hd2
   exact ⟨⟨d, hd1, e1⟩, by omega⟩
structure GI (us : List (Int × Int)) (n : Int) (ts : List (Str × Int)) (G : Geo) : Prop where
 eu : G.ws.map (fun w => (w.u, w.s)) = us
 wh : ∀ k w, G.ws[k]? = some w -> WhI w fun x j => ∃ t, (x, t) ∈ ts /\ wAt us t n = k /\ t / w.u % w.s = j
 far : ∀ c, c ∈ G.far ↔ (c.2, c.1) ∈ ts /\ wAt us c.1 n = us.length
 srt : G.far.Pairwise fun c d => ltIS d c = true
theorem GI.at {us : List (Int × Int)} {n : Int} {ts : List (Str × Int)} {G : Geo} (h : GI us n ts G) {k : Nat} {w : Wh} (hw : G.ws[k]? = some w) : us[k]? = some (w.u, w.s) := by
 rw [<- h.eu, List.getElem?_map, hw]; rfl
theorem GI.len {us : List (Int × Int)} {n : Int} {ts : List (Str × Int)} {G : Geo} (h : GI us n ts G) : G.ws.length = us.length := by
 rw [<- h.eu, List.length_map]
theorem set_us {ws : List Wh} {k : Nat} {w w' : Wh} (hw : ws[k]? = some w) (e : (w'.u, w'.s) = (w.u, w.s)) : (ws.set k w').map (fun w => (w.u, w.s)) = ws.map fun w => (w.u, w.s) := by
 rw [List.map_set, e]
 refine List.ext_getElem? fun i => ?_
 rw [List.getElem?_set]
 split
 . rename_i hi
   subst hi
   obtain ⟨hk, rfl⟩ := List.getElem?_eq_some_iff.mp hw
   rw [if_pos (by simpa using hk)]
   simp [hk]
 . rfl
theorem GI.lay {us : List (Int × Int)} {n t m : Int} {ts : List (Str × Int)} {G : Geo} {x : Str} {w : Wh} {pd : Addr} (h : GI us n ts G) (hx : x ∉ ts.map (·.1)) (hw : G.ws[wAt us t n]? = some w) (hs : 0 < w.s) (hm : MaskOk (w.layed (t / w.u % w.s) m pd x)) :
 GI us n (ts ++ [(x, t)]) ⟨G.q, G.f, G.ws.set (wAt us t n) (w.layed (t / w.u % w.s) m pd x), G.far⟩ := by
 have hnx : ∀ t', (x, t') ∉ ts := fun t' hm => hx (List.mem_map.mpr ⟨_, hm, rfl⟩)
 have hk : wAt us t n < G.ws.length := (List.getElem?_eq_some_iff.mp hw).1
 refine ⟨(set_us (w' := w.layed (t / w.u % w.s) m pd x) hw rfl).trans h.eu, fun k w1 hw1 => ?_, fun c => ?_, h.srt⟩
 . replace hw1 : (G.ws.set (wAt us t n) _)[k]? = some w1 := hw1
   rw [List.getElem?_set] at hw1
   split at hw1
   . rename_i e
     subst e
     obtain rfl := Option.some.inj hw1
     refine ((h.wh _ w hw).lay (m := m) (pd := pd) (fun j ⟨t', h1, _⟩ => hnx t' h1) (Int.emod_nonneg _ (by omega)) (Int.emod_lt_of_pos _ hs) hm).congr fun y j => ?_
     constructor
     . rintro (⟨t', h1, h2, h3⟩ | ⟨rfl, rfl⟩)
       . exact ⟨t', List.mem_append_left _ h1, h2, h3⟩
       . exact ⟨t, List.mem_append_right _ (by simp), rfl, rfl⟩
     . rintro ⟨t', h1, h2, h3⟩
       rcases List.mem_append.mp h1 with h1 | h1
       . exact .inl ⟨t', h1, h2, h3⟩
       . have : y = x /\ t' = t := by simpa using h1
         obtain ⟨rfl, rfl⟩ := this
         exact .inr ⟨rfl, h3.symm⟩
   . rename_i e
     refine (h.wh k w1 hw1).congr fun y j => ⟨fun ⟨t', h1, h2, h3⟩ => ⟨t', List.mem_append_left _ h1, h2, h3⟩, fun ⟨t', h1, h2, h3⟩ => ?_⟩
     rcases List.mem_append.mp h1 with h1 | h1
     . exact ⟨t', h1, h2, h3⟩
     . have : y = x /\ t' = t := by simpa using h1
       obtain ⟨rfl, rfl⟩ := this
       exact absurd h2 e
 . refine (h.far c).trans ⟨fun ⟨h1, h2⟩ => ⟨List.mem_append_left _ h1, h2⟩, fun ⟨h1, h2⟩ => ?_⟩
   rcases List.mem_append.mp h1 with h1 | h1
   . exact ⟨h1, h2⟩
   . have : c.2 = x /\ c.1 = t := by simpa using h1
     rw [this.2] at h2
     have := h.len
     omega
theorem mem_insV {α : Type} {xs : List α} {k : Nat} {y c : α} : c ∈ insV xs k y ↔ c ∈ xs \/ c = y := by
 unfold insV
 rw [List.mem_append, List.mem_cons]
 constructor
 . rintro (h | h | h)
   . exact .inl (List.mem_of_mem_take h)
   . exact .inr h
   . exact .inl (List.mem_of_mem_drop h)
 . rintro (h | h)
   . rw [<- List.take_append_drop k xs, List.mem_append] at h
     rcases h with h | h
     . exact .inl h
     . exact .inr (.inr h)
   . exact .inr (.inl h)
def Plc (far : List (Int × Str)) (c : Int × Str) (i : Nat) : Prop := i <= far.length /\ (∀ j d, j < i -> far[j]? = some d -> ltIS c d = true) /\ ∀ j d, i <= j -> far[j]? = some d -> ltIS c d = false
theorem ltIS_lt_of {a b c : Int × Str} (h : ltIS a b = true) (h2 : ltIS b c = true) : ltIS a c = true := by
 cases e : ltIS a c with
 | true => rfl
 | false =>
   have h3 := ltIS_ntr e (ltIS_asy h2)
   rw [h3] at h; cases h
theorem pw_ins {far : List (Int × Str)} {c : Int × Str} {i : Nat} (h : far.Pairwise fun c d => ltIS d c = true) (hp : Plc far c i) (hc : c ∉ far) : (insV far i c).Pairwise fun c d => ltIS d c = true := by
 obtain ⟨hi, h1, h2⟩ := hp
 have h' := h
 rw [<- List.take_append_drop i far, List.pairwise_append] at h'
 obtain ⟨a1, a2, a3⟩ := h'
 unfold insV
 rw [List.pairwise_append, List.pairwise_cons]
 have hb : ∀ d ∈ far.drop i, ltIS d c = true := fun d hd => by
  obtain ⟨j, hj, rfl⟩ := List.getElem_of_mem hd
  have := h2 (i + j) ((far.drop i)[j]) (by omega) (by rw [<- List.getElem?_drop]; exact List.getElem?_eq_getElem hj)
  cases e : ltIS (far.drop i)[j] c with
  | true => rfl
  | false =>
    have := ltIS_tot this e
    exact absurd (List.mem_of_mem_drop (this ▸ hd)) hc
 have ha : ∀ d ∈ far.take i, ltIS c d = true := fun d hd => by
  obtain ⟨j, hj, rfl⟩ := List.getElem_of_mem hd
  rw [List.length_take] at hj
  have hj1 : j < i := by omega
  have hj2 : j < far.length := by omega
  have := h1 j far[j] hj1 (List.getElem?_eq_getElem hj2)
  rw [List.getElem_take]; exact this
 refine ⟨a1, ⟨hb, a2⟩, fun x hx y hy => ?_⟩
 rcases List.mem_cons.mp hy with rfl | hy
 . exact ha x hx
 . exact ltIS_lt_of (hb y hy) (ha x hx)
theorem GI.layFar {us : List (Int × Int)} {n t : Int} {ts : List (Str × Int)} {G : Geo} {x : Str} {i : Nat} (h : GI us n ts G) (hx : x ∉ ts.map (·.1)) (hw : wAt us t n = us.length) (hi : Plc G.far (t, x) i) :
 GI us n (ts ++ [(x, t)]) ⟨G.q, G.f, G.ws, insV G.far i (t, x)⟩ := by
 have hnx : ∀ t', (x, t') ∉ ts := fun t' hm => hx (List.mem_map.mpr ⟨_, hm, rfl⟩)
 refine ⟨h.eu, fun k w1 hw1 => ?_, fun c => ?_, pw_ins h.srt hi fun z => hnx t ((h.far _).mp z).1⟩
 . refine (h.wh k w1 hw1).congr fun y j => ⟨fun ⟨t', h1, h2, h3⟩ => ⟨t', List.mem_append_left _ h1, h2, h3⟩, fun ⟨t', h1, h2, h3⟩ => ?_⟩
   rcases List.mem_append.mp h1 with h1 | h1
   . exact ⟨t', h1, h2, h3⟩
   . have : y = x /\ t' = t := by simpa using h1
     obtain ⟨rfl, rfl⟩ := this
     have h4 : k < G.ws.length := (List.getElem?_eq_some_iff.mp hw1).1
     have := h.len
     omega
 . rw [mem_insV, h.far c]
   constructor
   . rintro (⟨h1, h2⟩ | rfl)
     . exact ⟨List.mem_append_left _ h1, h2⟩
     . exact ⟨List.mem_append_right _ (by simp), hw⟩
   . rintro ⟨h1, h2⟩
     rcases List.mem_append.mp h1 with h1 | h1
     . exact .inl ⟨h1, h2⟩
     . have : c.2 = x /\ c.1 = t := by simpa using h1
       exact .inr (Prod.ext this.2 this.1)
def dropT (ts : List (Str × Int)) (x : Str) : List (Str × Int) := ts.filter fun y => !decide (y.1 = x)
theorem mem_dropT {ts : List (Str × Int)} {x : Str} {y : Str × Int} : y ∈ dropT ts x ↔ y ∈ ts /\ y.1 ≠ x := by
 unfold dropT
 rw [List.mem_filter]
 simp
theorem nd_one {ts : List (Str × Int)} (h : (ts.map (·.1)).Nodup) {x : Str} {t t' : Int} (h1 : (x, t) ∈ ts) (h2 : (x, t') ∈ ts) : t = t' := by
 induction ts with
 | nil => cases h1
 | cons y r ih =>
   rw [List.map_cons, List.nodup_cons] at h
   rcases List.mem_cons.mp h1 with e1 | e1
   . rcases List.mem_cons.mp h2 with e2 | e2
     . rw [<- e1] at e2; exact (Prod.mk.inj e2).2.symm
     . exact absurd (List.mem_map.mpr ⟨_, e2, rfl⟩) (by rw [<- e1] at h; exact h.1)
   . rcases List.mem_cons.mp h2 with e2 | e2
     . exact absurd (List.mem_map.mpr ⟨_, e1, rfl⟩) (by rw [<- e2] at h; exact h.1)
     . exact ih h.2 e1 e2
def whF (u s m : Int) (dn : Addr) : List (Str × V) := [("unit", .int u), ("slots", .int s), ("span", .int (u * s)), ("mask", .int m), ("names_in", .ref dn)]
def kvS (cs : List Sl) : List (Key × V) := cs.map fun c => (Sum.inl c.k, V.ref c.p)
def nsD (ns : List Str) : List (Str × PyData) := ns.map fun x => (x, .bool true)
structure WhAt (C : Addr) (H : Hp) (w : Wh) : Prop where
 i : ∃ dx, H w.x = some (.ins C dx (whF w.u w.s w.m w.dn))
 d : H w.dn = some (.dK (kvS w.cs))
 c : ∀ c ∈ w.cs, DAt H c.p (nsD c.ns)
def Wh.foot (w : Wh) : List Addr := w.x :: w.dn :: w.cs.map (·.p)
def Geo.foot (G : Geo) : List Addr := G.q :: G.f :: G.ws.flatMap Wh.foot
theorem WhAt.keeps {C : Addr} {H H' : Hp} {w : Wh} (sm : Same H H') (h : WhAt C H w) : WhAt C H' w := ⟨let ⟨dx, e⟩ := h.i; ⟨dx, sm _ _ e⟩, sm _ _ h.d, fun c hc => (h.c c hc).keeps sm⟩
theorem WhAt.mv {C : Addr} {S : List Addr} {H H' : Hp} {w : Wh} (mv : Mv S H H') (n : ∀ b ∈ w.foot, b ∉ S) (h : WhAt C H w) : WhAt C H' w := by
 refine ⟨?_, mv.at (n _ (by simp [Wh.foot])) h.d, fun c hc => (h.c c hc).mv mv (n _ ?_)⟩
 . obtain ⟨dx, e⟩ := h.i
   exact ⟨dx, mv.at (n _ (by simp [Wh.foot])) e⟩
 . unfold Wh.foot
   exact List.mem_cons_of_mem _ (List.mem_cons_of_mem _ (List.mem_map_of_mem hc))
theorem WhAt.alive {C : Addr} {H : Hp} {w : Wh} (h : WhAt C H w) : ∀ b ∈ w.foot, H b ≠ none := by
 intro b hb
 unfold Wh.foot at hb
 rcases List.mem_cons.mp hb with rfl | hb
 . obtain ⟨dx, e⟩ := h.i
   rw [e]; simp
 . rcases List.mem_cons.mp hb with rfl | hb
   . rw [h.d]; simp
   . obtain ⟨c, hc, rfl⟩ := List.mem_map.mp hb
     obtain ⟨kvs, e, _⟩ := h.c c hc
     rw [e]; simp
theorem kvS_none {cs : List Sl} {k : Int} (h : ∀ c ∈ cs, c.k ≠ k) : valV (kvS cs) (.inl k) = none := by
 unfold valV kvS
 rw [Option.map_eq_none_iff, List.find?_eq_none]
 intro kv hkv
 obtain ⟨c, hc, rfl⟩ := List.mem_map.mp hkv
 simp [h c hc]
theorem kvS_some {cs : List Sl} {c : Sl} (hn : (cs.map (·.k)).Nodup) (hc : c ∈ cs) : valV (kvS cs) (.inl c.k) = some (.ref c.p) := by
 induction cs with
 | nil => cases hc
 | cons y r ih =>
   rw [List.map_cons, List.nodup_cons] at hn
   rcases List.mem_cons.mp hc with rfl | hc
   . exact valV_pos rfl
   . have hne : y.k ≠ c.k := fun z => hn.1 (z ▸ List.mem_map_of_mem (f := (·.k)) hc)
     exact (valV_neg (fun z => hne (Sum.inl.inj z))).trans (ih hn.2 hc)
theorem kvS_put {cs : List Sl} {k : Int} {p : Addr} {ns : List Str} (h : ∀ c ∈ cs, c.k ≠ k) : putK (kvS cs) (.inl k) (.ref p) = kvS (cs ++ [⟨k, p, ns⟩]) := by
 have e : ((kvS cs).any fun kv => decide (kv.1 = Sum.inl k)) = false := by
  rw [<- Bool.not_eq_true, List.any_eq_true]
  rintro ⟨kv, h1, h2⟩
  unfold kvS at h1
  obtain ⟨c, hc, rfl⟩ := List.mem_map.mp h1
  exact h c hc (Sum.inl.inj (of_decide_eq_true h2))
 unfold putK
 rw [e, if_neg (by decide)]
 unfold kvS
 rw [List.map_append]; rfl
theorem kvS_drop (cs : List Sl) (k : Int) : dropK (kvS cs) (.inl k) = kvS (dropS cs k) := by
 unfold dropK kvS dropS
 rw [List.filter_map]
 congr 1
 refine List.filter_congr fun c _ => ?_
 simp [Function.comp]
theorem kvS_map {cs : List Sl} {f : Sl -> Sl} (h1 : ∀ c, (f c).k = c.k) (h2 : ∀ c, (f c).p = c.p) : kvS (cs.map f) = kvS cs := by
 unfold kvS
 rw [List.map_map]
 refine List.map_congr_left fun c _ => ?_
 show (Sum.inl (f c).k, V.ref (f c).p) = _
 rw [h1, h2]
theorem kvS_len (cs : List Sl) : (kvS cs).length = cs.length := List.length_map ..
theorem nsD_len (ns : List Str) : (nsD ns).length = ns.length := List.length_map ..
theorem nsD_put {ns : List Str} {x : Str} (h : x ∉ ns) : putD (nsD ns) x (.bool true) = nsD (ns ++ [x]) := by
 unfold putD
 have e : ((nsD ns).any fun kv => decide (kv.1 = x)) = false := by
  rw [<- Bool.not_eq_true, List.any_eq_true]
  rintro ⟨kv, h1, h2⟩
  unfold nsD at h1
  obtain ⟨y, hy, rfl⟩ := List.mem_map.mp h1
  exact h (of_decide_eq_true h2 ▸ hy)
 rw [e, if_neg (by decide)]
 unfold nsD
 rw [List.map_append]; rfl
theorem foot_nd {w : Wh} (h : w.foot.Nodup) : w.x ≠ w.dn /\ (∀ c ∈ w.cs, c.p ≠ w.x /\ c.p ≠ w.dn) /\ (w.cs.map (·.p)).Nodup := by
 unfold Wh.foot at h
 rw [List.nodup_cons, List.nodup_cons] at h
 refine ⟨fun z => h.1 (by simp [z]), fun c hc => ⟨fun z => h.1 ?_, fun z => h.2.1 (z ▸ List.mem_map_of_mem hc)⟩, h.2.2⟩
 exact List.mem_cons_of_mem _ (z ▸ List.mem_map_of_mem (f := (·.p)) hc)
theorem p_inj {cs : List Sl} (h : (cs.map (·.p)).Nodup) {c d : Sl} (hc : c ∈ cs) (hd : d ∈ cs) (e : c.p = d.p) : c = d := by
 induction cs with
 | nil => cases hc
 | cons y r ih =>
   rw [List.map_cons, List.nodup_cons] at h
   rcases List.mem_cons.mp hc with rfl | hc'
   . rcases List.mem_cons.mp hd with rfl | hd'
     . rfl
     . exact absurd (List.mem_map_of_mem (f := (·.p)) hd') (e ▸ h.1)
   . rcases List.mem_cons.mp hd with rfl | hd'
     . exact absurd (List.mem_map_of_mem (f := (·.p)) hc') (e ▸ h.1)
     . exact ih h.2 hc' hd'
theorem k_inj {cs : List Sl} (h : (cs.map (·.k)).Nodup) {c d : Sl} (hc : c ∈ cs) (hd : d ∈ cs) (e : c.k = d.k) : c = d := by
 induction cs with
 | nil => cases hc
 | cons y r ih =>
   rw [List.map_cons, List.nodup_cons] at h
   rcases List.mem_cons.mp hc with rfl | hc'
   . rcases List.mem_cons.mp hd with rfl | hd'
     . rfl
     . exact absurd (List.mem_map_of_mem (f := (·.k)) hd') (e ▸ h.1)
   . rcases List.mem_cons.mp hd with rfl | hd'
     . exact absurd (List.mem_map_of_mem (f := (·.k)) hc') (e ▸ h.1)
     . exact ih h.2 hc' hd'
def UsOk (us : List (Int × Int)) : Prop := ∀ q ∈ us, 0 < q.1 /\ q.1 <= 10 ^ 12 /\ 2 <= q.2 /\ q.2 <= 60
def WhB (w : Wh) : Prop := 0 < w.u /\ w.u <= 10 ^ 12 /\ 2 <= w.s /\ w.s <= 60
theorem r_unpV {K : PySem.W.Frag} {σ : St} {H : Hp} {t : Addr} {v1 v2 : V} {i j : Nat} {R : St -> Hp -> Prop} (ha : H t = some (.tup [v1, v2])) (h : R ((σ.set i (some v1)).set j (some v2)) H) : gTup K 2 (gCons (gName i) (gCons (gName j) gNil)) (.ref t) σ H R :=
 ⟨_, _, rfl, .of ha, rfl, _, _, rfl, _, _, rfl, rfl, h⟩
structure GAt (CW : Addr) (H : Hp) (G : Geo) : Prop where
 q : H G.q = some (.lst (G.ws.map fun w => V.ref w.x))
 f : LAt H G.f (G.far.map pairD)
 w : ∀ w ∈ G.ws, WhAt CW H w
 nd : G.foot.Nodup
theorem GAt.keeps {C : Addr} {H H' : Hp} {G : Geo} (sm : Same H H') (h : GAt C H G) : GAt C H' G := ⟨sm _ _ h.q, h.f.keeps sm, fun w hw => (h.w w hw).keeps sm, h.nd⟩
theorem foot_w {G : Geo} {w : Wh} (hw : w ∈ G.ws) : ∀ b ∈ w.foot, b ∈ G.foot := fun b hb => List.mem_cons_of_mem _ (List.mem_cons_of_mem _ (List.mem_flatMap.mpr ⟨w, hw, hb⟩))
theorem GAt.mv {C : Addr} {S : List Addr} {H H' : Hp} {G : Geo} (mv : Mv S H H') (n : ∀ b ∈ G.foot, b ∉ S) (h : GAt C H G) : GAt C H' G :=
 ⟨mv.at (n _ (by simp [Geo.foot])) h.q, h.f.mv mv (n _ (by simp [Geo.foot])), fun w hw => (h.w w hw).mv mv fun b hb => n b (foot_w hw b hb), h.nd⟩
theorem GAt.alive {C : Addr} {H : Hp} {G : Geo} (h : GAt C H G) : ∀ b ∈ G.foot, H b ≠ none := by
 intro b hb
 unfold Geo.foot at hb
 rcases List.mem_cons.mp hb with rfl | hb
 . rw [h.q]; simp
 . rcases List.mem_cons.mp hb with rfl | hb
   . obtain ⟨xs, e, _⟩ := h.f
     rw [e]; simp
   . obtain ⟨w, hw, hb⟩ := List.mem_flatMap.mp hb
     exact (h.w w hw).alive b hb
theorem GAt.foot1 {C : Addr} {H : Hp} {G : Geo} (h : GAt C H G) : G.q ≠ G.f /\ (∀ w ∈ G.ws, ∀ b ∈ w.foot, b ≠ G.q /\ b ≠ G.f) /\ (G.ws.flatMap Wh.foot).Nodup := by
 have hn := h.nd
 unfold Geo.foot at hn
 rw [List.nodup_cons, List.nodup_cons] at hn
 refine ⟨fun z => hn.1 (by simp [z]), fun w hw b hb => ⟨fun z => hn.1 ?_, fun z => hn.2.1 (z ▸ List.mem_flatMap.mpr ⟨w, hw, hb⟩)⟩, hn.2.2⟩
 exact List.mem_cons_of_mem _ (z ▸ List.mem_flatMap.mpr ⟨w, hw, hb⟩)
theorem split_at {α : Type} {l : List α} {k : Nat} {w : α} (h : l[k]? = some w) (w' : α) : l = l.take k ++ w :: l.drop (k + 1) /\ l.set k w' = l.take k ++ w' :: l.drop (k + 1) := by
 obtain ⟨hk, rfl⟩ := List.getElem?_eq_some_iff.mp h
 constructor
 . rw [List.getElem_cons_drop]; exact (List.take_append_drop k l).symm
 . rw [List.set_eq_take_append_cons_drop, if_pos hk]
theorem GAt.set {C : Addr} {H H' : Hp} {G : Geo} {k : Nat} {w w' : Wh} (h : GAt C H G) (hw : G.ws[k]? = some w) (mv : Mv w.foot H H') (hw' : WhAt C H' w') (ex : w'.x = w.x) (hn : w'.foot.Nodup) (hs : ∀ b ∈ w'.foot, b ∈ w.foot \/ H b = none) :
 GAt C H' ⟨G.q, G.f, G.ws.set k w', G.far⟩ /\ ∀ b ∈ Geo.foot ⟨G.q, G.f, G.ws.set k w', G.far⟩, b ∈ G.foot \/ H b = none := by
 obtain ⟨f1, f2, f3⟩ := h.foot1
 obtain ⟨e1, e2⟩ := split_at hw w'
 have hwm : w ∈ G.ws := List.mem_of_getElem? hw
 have hft : ∀ b ∈ Geo.foot ⟨G.q, G.f, G.ws.set k w', G.far⟩, b ∈ G.foot \/ H b = none := fun b hb => by
  unfold Geo.foot at hb
  rcases List.mem_cons.mp hb with rfl | hb
  . exact .inl (by simp [Geo.foot])
  . rcases List.mem_cons.mp hb with rfl | hb
    . exact .inl (by simp [Geo.foot])
    . obtain ⟨y, hy, hb2⟩ := List.mem_flatMap.mp hb
      have hy : y ∈ G.ws.set k w' := hy
      rcases List.mem_or_eq_of_mem_set hy with hy | hy
      . exact .inl (foot_w hy b hb2)
      . rcases hs b (hy ▸ hb2) with q | q
        . exact .inl (foot_w hwm b q)
        . exact .inr q
 refine ⟨⟨?_, h.f.mv mv fun z => (f2 w hwm _ z).2 rfl, fun y hy => ?_, ?_⟩, hft⟩
 . show H' G.q = some (.lst ((G.ws.set k w').map _))
   rw [show (G.ws.set k w').map (fun w => V.ref w.x) = G.ws.map fun w => V.ref w.x from ?_]
   . exact mv.at (fun z => (f2 w hwm _ z).1 rfl) h.q
   . rw [e2, List.map_append, List.map_cons, ex]
     conv => rhs; rw [e1, List.map_append, List.map_cons]
 . have hy : y ∈ G.ws.set k w' := hy
   obtain ⟨j, hj⟩ := List.getElem?_of_mem hy
   rw [List.getElem?_set] at hj
   split at hj
   . split at hj
     . cases hj; exact hw'
     . cases hj
   . rename_i hjk
     refine (h.w y (List.mem_of_getElem? hj)).mv mv fun b hb hb' => ?_
     have key : ∀ (l : List Wh) (i j : Nat) (x y : Wh), (l.flatMap Wh.foot).Nodup -> l[i]? = some x -> l[j]? = some y -> i ≠ j -> ∀ b ∈ x.foot, b ∉ y.foot := by
      intro l
      induction l with
      | nil => intro i j x y _ hx; simp at hx
      | cons z r ih =>
        intro i j x y hn hx hy hij b hb hb2
        rw [List.flatMap_cons, List.nodup_append] at hn
        obtain ⟨_, hn2, hn3⟩ := hn
        cases i with
        | zero =>
          cases j with
          | zero => exact hij rfl
          | succ j =>
            have hx : z = x := by simpa using hx
            have hy : r[j]? = some y := by simpa using hy
            exact hn3 b (hx ▸ hb) b (List.mem_flatMap.mpr ⟨y, List.mem_of_getElem? hy, hb2⟩) rfl
        | succ i =>
          have hx : r[i]? = some x := by simpa using hx
          cases j with
          | zero =>
            have hy : z = y := by simpa using hy
            exact hn3 b (hy ▸ hb2) b (List.mem_flatMap.mpr ⟨x, List.mem_of_getElem? hx, hb⟩) rfl
          | succ j =>
            have hy : r[j]? = some y := by simpa using hy
            exact ih i j x y hn2 hx hy (fun z => hij (by rw [z])) b hb hb2
     exact key G.ws k j w y f3 hw hj hjk b hb' hb
 . have hn0 := h.nd
   unfold Geo.foot at hn0 ⊢
   show (G.q :: G.f :: (G.ws.set k w').flatMap Wh.foot).Nodup
   rw [e1] at hn0
   rw [e2]
   rw [List.flatMap_append, List.flatMap_cons] at hn0 ⊢
   have c1 : G.q :: G.f :: ((G.ws.take k).flatMap Wh.foot ++ (w.foot ++ (G.ws.drop (k + 1)).flatMap Wh.foot)) = (G.q :: G.f :: (G.ws.take k).flatMap Wh.foot) ++ (w.foot ++ (G.ws.drop (k + 1)).flatMap Wh.foot) := by simp
   have c2 : G.q :: G.f :: ((G.ws.take k).flatMap Wh.foot ++ (w'.foot ++ (G.ws.drop (k + 1)).flatMap Wh.foot)) = (G.q :: G.f :: (G.ws.take k).flatMap Wh.foot) ++ (w'.foot ++ (G.ws.drop (k + 1)).flatMap Wh.foot) := by simp
   rw [c1] at hn0
   rw [c2]
   refine nd_repl hn0 hn fun b hb => ?_
   rcases hs b hb with q | q
   . exact .inl q
   . have hal := h.alive
     refine .inr ⟨fun z => hal b ?_ q, fun z => hal b ?_ q⟩
     . unfold Geo.foot
       rw [e1, List.flatMap_append]
       rcases List.mem_cons.mp z with rfl | z
       . simp
       . rcases List.mem_cons.mp z with rfl | z
         . simp
         . exact List.mem_cons_of_mem _ (List.mem_cons_of_mem _ (List.mem_append_left _ z))
     . unfold Geo.foot
       rw [e1, List.flatMap_append, List.flatMap_cons]
       exact List.mem_cons_of_mem _ (List.mem_cons_of_mem _ (List.mem_append_right _ (List.mem_append_right _ z)))
theorem GAt.setF {C : Addr} {H H' : Hp} {G : Geo} {far : List (Int × Str)} (h : GAt C H G) (mv : Mv [G.f] H H') (hf : LAt H' G.f (far.map pairD)) : GAt C H' ⟨G.q, G.f, G.ws, far⟩ := by
 obtain ⟨f1, f2, f3⟩ := h.foot1
 exact ⟨mv.at (by simpa using f1) h.q, hf, fun w hw => (h.w w hw).mv mv fun b hb => by simpa using (f2 w hw b hb).2, h.nd⟩
theorem GI.bnd {us : List (Int × Int)} {n : Int} {ts : List (Str × Int)} {G : Geo} (h : GI us n ts G) (hu : UsOk us) {k : Nat} {w : Wh} (hw : G.ws[k]? = some w) : WhB w := by
 have := hu _ (List.mem_of_getElem? (h.at hw))
 exact this
theorem GI.small {us : List (Int × Int)} {n : Int} {ts : List (Str × Int)} {G : Geo} (h : GI us n ts G) (hu : UsOk us) {k : Nat} {w : Wh} (hw : G.ws[k]? = some w) : w.cs.length <= 60 /\ ∀ c ∈ w.cs, c.ns.length <= ts.length := by
 have hi := h.wh k w hw
 have hb := h.bnd hu hw
 constructor
 . have := nd_len (l' := (List.range 60).map fun i : Nat => (i : Int)) hi.nd fun x hx => by
    obtain ⟨c, hc, rfl⟩ := List.mem_map.mp hx
    obtain ⟨_, _, h0, h1⟩ := hi.ne c hc
    refine List.mem_map.mpr ⟨c.k.toNat, List.mem_range.mpr ?_, by omega⟩
    have := hb.2.2.2
    omega
   simpa using this
 . intro c hc
   have := nd_len (l' := ts.map (·.1)) (hi.ne c hc).2.1 fun x hx => by
    obtain ⟨t, ht, _⟩ := (hi.mem x c.k).mp ⟨c, hc, rfl, hx⟩
    exact List.mem_map.mpr ⟨_, ht, rfl⟩
   simpa using this
theorem GI.farlen {us : List (Int × Int)} {n : Int} {ts : List (Str × Int)} {G : Geo} (h : GI us n ts G) : G.far.length <= ts.length := by
 have hnd : G.far.Nodup := h.srt.imp fun {a b} hab e => by subst e; rw [ltIS_irr] at hab; cases hab
 have := nd_len (l' := ts.map fun x => (x.2, x.1)) hnd fun x hx => List.mem_map.mpr ⟨_, ((h.far x).mp hx).1, rfl⟩
 simpa using this
section
variable {P : Program} {w : World} {K : PySem.W.Frag} {mg : Str -> Option Value} {base : Heap} {a : Ad}
theorem law_binds (T : Txt K mg a) (s : Shared) (u : Value) : BindsTo s a.fd_law ⟨[u], []⟩ [("_law_script", u)] := by
 obtain ⟨oc, od, kV, doc, pm, an, cdv, ct, osl, e, lk, hcd⟩ := T.F_law.ex
 rw [e]
 exact .of_eq rfl
theorem ok_law_cell_at (T : Txt K mg a) : FnOk P w K mg base CX0 1 a.f__law_cell_at a.fd__law_cell_at ["_law_script", "_law_k"] (spCell K) := by
 refine T.F__law_cell_at.ok sc__law_cell_at (fun vs H Q E h => ?_) (fun cdv A outer s H vs Q E hr h => ?_)
 . obtain ⟨_, _, _, rfl, _⟩ := h; rfl
 . obtain ⟨l, ns, i, rfl, hl, h0, k⟩ := h
   refine ⟨_, (pss_cut (ps_if (pt_cmpR op_lt (pv 1) (pe_callB call_lenK rfl T.no_len PySem.boot_len (pa_cons (pv 0) pa_nil)) (nomark _))
    (pss_one (ps_ret (pe_ix ix_K (pv 0) (pv 1) (fun _ _ => rfl))))
    pss_nil)
    (pss_one (ps_ret pe_int))), ?_⟩
   repeat' (walk_at "rd1")
   . exact r_ixL hl (cell_at h0 (by assumption)) k
   . rw [cell_no h0 (by assumption)] at k; exact k
theorem cal_law_cell_at (T : Txt K mg a) : Cal P w K mg base 1 a.f__law_cell_at ["_law_script", "_law_k"] [] (spCell K) :=
 ⟨⟨_, _, ok_law_cell_at T, T.F__law_cell_at.binds fun _ _ _ _ _ _ => .all fun us hl => match us, hl with | [_, _], _ => rfl, .nil⟩⟩
local macro_rules | `(tactic| walk_at "use") => `(tactic| first
 | ((with_reducible refine' u_cell ?e1 ?e2 ?_); (case e1 => walk_at "sql"); (case e2 => omega))
 | fail)
def sp_whole : Sp := fun vs H Q _ => ∃ v d, vs = [v] /\ Dv H v d /\ Q (.bl (isInt d && !isBool d)) H
theorem u_whole {H : Hp} {Q : VK} {E : XK} {v : V} {d : PyData} (h : Dv H v d) (q : Q (.bl (isInt d && !isBool d)) H) : sp_whole [v] H Q E := ⟨v, d, rfl, h, q⟩
theorem ok_whole (T : Txt K mg a) : FnOk P w K mg base CX0 1 a.f_is_whole a.fd_is_whole ["thing"] sp_whole := by
 refine T.F_is_whole.ok sc_is_whole (fun vs H Q E h => ?_) (fun cdv A outer s H vs Q E hr h => ?_)
 . obtain ⟨_, _, rfl, _⟩ := h; rfl
 . obtain ⟨v, d, rfl, hd, k⟩ := h
   refine ⟨_, (pss_one (ps_ret (pe_and (pe_callB call_isi rfl T.no_isinstance PyProof.Rows.boot_isinstance (pa_cons (pv 0) (pa_cons (pe_bltn (v := .ty "int") rfl T.no_int PyProof.Rows.boot_int rfl) pa_nil))) (pe_one (pe_not (pe_callB call_isi rfl T.no_isinstance PyProof.Rows.boot_isinstance (pa_cons (pv 0) (pa_cons (pe_bltn (v := .ty "bool") rfl T.no_bool PyProof.Rows.boot_bool rfl) pa_nil)))))))), ?_⟩
   repeat' (walk_at "rd1")
   . refine r_rt ?_; cases d <;> simp_all [isInt, isBool]
   . refine r_rt ?_; cases d <;> simp_all [isInt, isBool]
theorem cal_whole (T : Txt K mg a) : Cal P w K mg base 1 a.f_is_whole ["thing"] [] sp_whole :=
 ⟨⟨_, _, ok_whole T, T.F_is_whole.binds fun _ _ _ _ _ _ => .all fun us hl => match us, hl with | [_], _ => rfl, .nil⟩⟩
def rnd : PyData -> Bool
 | .int i => decide (2 <= i) && decide (i <= 60)
 | _ => false
def scD : PyData -> Bool
 | .int _ => true
 | .bool _ => true
 | .str _ => true
 | _ => false
def good (ds : List PyData) : Prop := 1 <= ds.length /\ ds.length <= 6 /\ ds.all rnd = true
def sp_check (cN : Addr) : Sp := fun vs H Q E => ∃ l ds, vs = [.ref l] /\ LAt H l ds /\ ds.length <= 60 /\ ds.all scD = true /\ (good ds -> Q .non H) /\ (¬ good ds -> E (.ref cN) none H)
theorem ok_check (T : Txt K mg a) : FnOk P w K mg base (CXD P w) 2 a.f_check_rounds a.fd_check_rounds ["rounds"] (sp_check a.C_NoRounds) := by
 have c_is_whole := cal_whole (P := P) (w := w) (base := base) T
 refine T.F_check_rounds.okD sc_check_rounds (fun vs H Q E h => ?_) (fun cdv A outer s H vs Q E hr h => ?_)
 . obtain ⟨_, _, rfl, _⟩ := h; rfl
 . obtain ⟨l, ds, rfl, hl, hlen, hsc, q, qE⟩ := h
   refine ⟨_, (pss_cut (ps_if (PW.pt (pw_or (pt_not (pt_truth (pe_callB call_isi rfl T.no_isinstance PyProof.Rows.boot_isinstance (pa_cons (pv 0) (pa_cons (pe_bltn (v := .ty "list") rfl T.no_list PyProof.Rows.boot_list rfl) pa_nil))) (fun _ => rfl))) (pw_or1 (pt_not (pt_chain op_le op_le pe_int (pe_callB call_lenK rfl T.no_len PySem.boot_len (pa_cons (pv 0) pa_nil)) (pe_glob (v := .int 6) rfl T.mg_MOST_WHEELS ⟨_, rfl⟩))))))
    (pss_one (ps_raiseP raiseD rfl (pa_cons pe_str pa_nil) rfl T.mg_NoRounds T.x_NoRounds rfl))
    pss_nil)
    (pss_one (ps_for PassesOwn.leaving rfl (pi_list (pv 0)) (pg_name (i := 1) sc_check_rounds.nd rfl (Or.inl rfl))
     (pss_one (ps_if (PW.pt (pw_or (pt_not (pt_truth (pn_call c_is_whole (hr.mono (by decide)) rfl T.mg_is_whole T.kp_is_whole (pa_cons (pv 1) pa_nil)) (fun _ => rfl))) (pw_or1 (pt_not (pt_chain op_le op_le (pe_glob (v := .int 2) rfl T.mg_LEAST_ROUND ⟨_, rfl⟩) (pv 1) (pe_glob (v := .int 60) rfl T.mg_MOST_ROUND ⟨_, rfl⟩))))))
      (pss_one (ps_raiseP raiseD rfl (pa_cons pe_str pa_nil) rfl T.mg_NoRounds T.x_NoRounds rfl))
      pss_nil))))), ?_⟩
   repeat' (walk_at "rd1")
   . rename_i h1 h2
     exact qE fun g => by have := g.2.1; omega
   . rename_i h1 h2
     have bad : ∀ {j : Nat} {c : PyData}, ds[j]? = some c -> rnd c = false -> E (.ref a.C_NoRounds) none H := fun hj hc => qE fun g => by
      have := List.all_eq_true.mp g.2.2 _ (List.mem_of_getElem? hj)
      rw [hc] at this; cases this
     refine forDB (Hb := H) (cs := ds) (gd := id) (by rw [List.map_id]; exact hl.dv) (fun j σ' H' => H = H' /\ (ds.take j).all rnd = true /\ ∃ z, σ' = [some (.ref l), z]) ⟨rfl, rfl, _, rfl⟩ (fun i σ' H' _ ⟨e, _⟩ a' xs _ hx => e ▸ hx) ?_ ?_
     . rintro j c x σ' H' hj ⟨rfl, hall, z, rfl⟩ _ hd1
       have hx : Dv H x c := hd1 (Same.refl _)
       have hs := List.all_eq_true.mp hsc c (List.mem_of_getElem? hj)
       have nxt : rnd c = true -> (ds.take (j + 1)).all rnd = true := fun hc => by rw [List.take_add_one, hj, List.all_append, hall]; simp [hc]
       cases c with
       | int i =>
         obtain rfl := hx.int_inv
         repeat' (walk_at "rd1")
         refine u_whole (.int i) ?_
         repeat' (walk_at "rd1")
         . exact bad hj (by show (decide (2 <= i) && decide (i <= 60)) = _; rw [decide_eq_false (by omega : ¬ i <= 60), Bool.and_false])
         . exact ⟨rfl, nxt (by show (decide (2 <= i) && decide (i <= 60)) = _; rw [decide_eq_true (by omega : 2 <= i), decide_eq_true (by omega : i <= 60)]; rfl), _, rfl⟩
         . exact bad hj (by show (decide (2 <= i) && decide (i <= 60)) = _; rw [decide_eq_false (by omega : ¬ 2 <= i), Bool.false_and])
       | bool b =>
         obtain rfl : x = .bl b := by cases hx; rfl
         repeat' (walk_at "rd1")
         refine u_whole (.bl b) ?_
         repeat' (walk_at "rd1")
         all_goals exact bad hj rfl
       | str y =>
         obtain rfl := hx.str_inv
         repeat' (walk_at "rd1")
         refine u_whole (.str y) ?_
         repeat' (walk_at "rd1")
         all_goals exact bad hj rfl
       | _ => cases hs
     . rintro σ' H' ⟨rfl, hall, z, rfl⟩
       rw [List.take_length] at hall
       repeat' (walk_at "rd1")
       exact q ⟨by omega, by omega, hall⟩
   . rename_i h1 h2
     exact qE fun g => by have := g.1; omega
theorem cal_check (T : Txt K mg a) : CalD P w K mg base 2 a.f_check_rounds ["rounds"] [] (sp_check a.C_NoRounds) :=
 ⟨⟨_, _, ok_check T, T.F_check_rounds.binds fun _ _ _ _ _ _ => .all fun us hl => match us, hl with | [_], _ => rfl, .nil⟩⟩
def sp_whinit (C : Addr) : Sp := fun vs H Q _ => ∃ p dx u s, vs = [.ref p, .int u, .int s] /\ H p = some (.ins C dx []) /\ 0 < u /\ u <= 10 ^ 12 /\ 0 < s /\ s <= 60 /\ ∀ H' dn, Mv [p] H H' -> H dn = none -> WhAt C H' ⟨p, dn, u, s, 0, []⟩ -> Q .non H'
theorem ok_whinit (T : Txt K mg a) : FnOk P w K mg base CX0 1 a.f_Wheel___init__ a.fd_Wheel___init__ ["self", "unit", "slots"] (sp_whinit a.C_Wheel) := by
 have n1 := T.na_Wheel_unit; have n2 := T.na_Wheel_slots; have n3 := T.na_Wheel_span; have n4 := T.na_Wheel_mask; have n5 := T.na_Wheel_names_in; have cl := T.cl_Wheel
 refine T.F_Wheel___init__.ok sc_Wheel___init__ (fun vs H Q E h => ?_) (fun cdv A outer s H vs Q E hr h => ?_)
 . obtain ⟨_, _, _, _, rfl, _⟩ := h; rfl
 . obtain ⟨p, dx, u, sl, rfl, hp, hu0, hu1, hs0, hs1, q⟩ := h
   refine ⟨_, (pss_cut (ps_fld (pv 0) (pv 1) rfl)
    (pss_cut (ps_fld (pv 0) (pv 2) rfl)
    (pss_cut (ps_fld (pv 0) (pe_op op_mulB (pv 1) (pv 2)) rfl)
    (pss_cut (ps_fld (pv 0) pe_int rfl)
    (pss_one (ps_fld (pv 0) pe_dnewK rfl)))))), ?_⟩
   repeat' (walk_at "rd1")
   rename_i dn H2 sm2 hn2 hd2
   rw [upd_upd, upd_upd, upd_upd] at sm2 hn2
   have mv1 : Mv [p] H (upd H p (.ins a.C_Wheel dx [("unit", .int u), ("slots", .int sl), ("span", .int (u * sl)), ("mask", .int 0)])) := .of_upd hp (by intro _ z; cases z)
   have e2 := sm2 p _ upd_same
   have mv2 : Mv [p] H2 (upd H2 p (.ins a.C_Wheel dx (whF u sl 0 dn))) := .of_upd e2 (by intro _ z; cases z)
   have hnd : H dn = none := mv1.none hn2
   have hdp : dn ≠ p := Ne.symm (ne_of_none hp hnd)
   refine q _ dn (mv1.trans ((sm2.mv (S := [p])).trans mv2)) hnd ⟨⟨dx, upd_same⟩, ?_, fun c hc => by cases hc⟩
   obtain ⟨kvs, e3, dk⟩ := hd2
   cases dk
   exact mv2.at (by simpa using hdp) e3
theorem cal_Wheel_2 (T : Txt K mg a) : Cal P w K mg base 1 a.f_Wheel___init__ ["self", "unit", "slots"] [] (sp_whinit a.C_Wheel) :=
 ⟨⟨_, _, ok_whinit T, T.F_Wheel___init__.binds fun _ _ _ _ _ _ => .all fun us hl => match us, hl with | [_, _, _], _ => rfl, .nil⟩⟩
theorem new_ins {C x dx : Addr} {H H' : Hp} (hx : H x = none) (hd : H dx = none) (mv : Mv [x] (upd (upd H dx (.own x)) x (.ins C dx [])) H') : Same H H' := fun b u e => by
 have hb : b ≠ x := ne_of_none e hx
 refine mv.kp b u (by simpa using hb) ?_
 rw [upd_ne hb, upd_ne (ne_of_none e hd)]
 exact e
theorem none_two {C x dx d : Addr} {H : Hp} (h : upd (upd H dx (.own x)) x (.ins C dx []) d = none) : H d = none := by
 unfold upd at h
 split at h
 . cases h
 . split at h
   . cases h
   . exact h
theorem u_whmake {C : Addr} {H : Hp} {Q : VK} {E : XK} {u s : Int} (hu0 : 0 < u) (hu1 : u <= 10 ^ 12) (hs0 : 0 < s) (hs1 : s <= 60) (k : ∀ x dn H2, Same H H2 -> H x = none -> H dn = none -> WhAt C H2 ⟨x, dn, u, s, 0, []⟩ -> Q (.ref x) H2) : MakeP C (sp_whinit C) [.int u, .int s] H Q E :=
 ⟨_, rfl, fun x dx hx hd ne => ⟨x, dx, u, s, rfl, upd_same, hu0, hu1, hs0, hs1, fun H' dn mv hdn hw => ⟨rfl, k x dn H' (new_ins hx hd mv) hx (none_two hdn) hw⟩⟩⟩
def sp_holds (CW : Addr) : Sp := fun vs H Q _ => ∃ (x : Addr) (y : Wh) (t n : Int), vs = [.ref x, .int t, .int n] /\ x = y.x /\ WhAt CW H y /\ WhB y /\ Q (.bl (decide (t / (y.u * y.s) = n / (y.u * y.s)))) H
theorem u_holds {CW x : Addr} {H : Hp} {Q : VK} {E : XK} {y : Wh} {t n : Int} (e : x = y.x) (h : WhAt CW H y) (hb : WhB y) (q : Q (.bl (decide (t / (y.u * y.s) = n / (y.u * y.s)))) H) : sp_holds CW [.ref x, .int t, .int n] H Q E := ⟨x, y, t, n, rfl, e, h, hb, q⟩
theorem ok_holds (T : Txt K mg a) : FnOk P w K mg base CX0 1 a.f_Wheel_holds a.fd_Wheel_holds ["self", "time", "now"] (sp_holds a.C_Wheel) := by
 have n3 := T.na_Wheel_span; have cl := T.cl_Wheel
 refine T.F_Wheel_holds.ok sc_Wheel_holds (fun vs H Q E h => ?_) (fun cdv A outer s H vs Q E hr h => ?_)
 . obtain ⟨_, _, _, _, rfl, _⟩ := h; rfl
 . obtain ⟨_, y, t, n, rfl, rfl, hw, ⟨hu0, hu1, hs0, hs1⟩, q⟩ := h
   obtain ⟨dx, hx⟩ := hw.i
   have hi : Ins H (.ref y.x) a.C_Wheel [("unit", .int y.u), ("slots", .int y.s), ("span", .int (y.u * y.s)), ("mask", .int y.m), ("names_in", .ref y.dn)] := ⟨y.x, dx, rfl, hx⟩
   have hpos : 0 < y.u * y.s := Int.mul_pos hu0 (by omega)
   have hle : y.u * y.s <= 10 ^ 12 * 60 := Int.mul_le_mul hu1 hs1 (by omega) (by decide)
   generalize y.u * y.s = sp at *
   refine ⟨_, (pss_one (ps_ret (pe_cmpR (op_eqA hr.hu8) (pe_op op_fdivB (pv 1) (pe_fld (pv 0) rfl)) (pe_op op_fdivB (pv 2) (pe_fld (pv 0) rfl)) (nomark _)))), ?_⟩
   repeat' (walk_at "rd1")
   have e : decide (V.int (t / sp) = V.int (n / sp)) = decide (t / sp = n / sp) := by simp
   show Q (.bl (decide (V.int (t / sp) = V.int (n / sp)))) H
   rw [e]; exact q
theorem cal_holds (T : Txt K mg a) : Cal P w K mg base 1 a.f_Wheel_holds ["self", "time", "now"] [] (sp_holds a.C_Wheel) :=
 ⟨⟨_, _, ok_holds T, T.F_Wheel_holds.binds fun _ _ _ _ _ _ => .all fun us hl => match us, hl with | [_, _, _], _ => rfl, .nil⟩⟩
def slotN (y : Wh) (t : Int) : Int := t / y.u % y.s
theorem slotN_ge {y : Wh} (h : WhB y) (t : Int) : 0 <= slotN y t := Int.emod_nonneg _ (by have := h.2.2.1; omega)
theorem slotN_lt {y : Wh} (h : WhB y) (t : Int) : slotN y t < y.s := Int.emod_lt_of_pos _ (by have := h.2.2.1; omega)
def sp_slotof (CW : Addr) : Sp := fun vs H Q _ => ∃ (x : Addr) (y : Wh) (t : Int), vs = [.ref x, .int t] /\ x = y.x /\ WhAt CW H y /\ WhB y /\ Q (.int (slotN y t)) H
theorem u_slotof {CW x : Addr} {H : Hp} {Q : VK} {E : XK} {y : Wh} {t : Int} (e : x = y.x) (h : WhAt CW H y) (hb : WhB y) (q : Q (.int (slotN y t)) H) : sp_slotof CW [.ref x, .int t] H Q E := ⟨x, y, t, rfl, e, h, hb, q⟩
theorem ok_slotof (T : Txt K mg a) : FnOk P w K mg base CX0 1 a.f_Wheel_slot_of a.fd_Wheel_slot_of ["self", "time"] (sp_slotof a.C_Wheel) := by
 have n1 := T.na_Wheel_unit; have n2 := T.na_Wheel_slots; have cl := T.cl_Wheel
 refine T.F_Wheel_slot_of.ok sc_Wheel_slot_of (fun vs H Q E h => ?_) (fun cdv A outer s H vs Q E hr h => ?_)
 . obtain ⟨_, _, _, rfl, _⟩ := h; rfl
 . obtain ⟨_, y, t, rfl, rfl, hw, ⟨hu0, hu1, hs0, hs1⟩, q⟩ := h
   obtain ⟨dx, hx⟩ := hw.i
   have hi : Ins H (.ref y.x) a.C_Wheel [("unit", .int y.u), ("slots", .int y.s), ("span", .int (y.u * y.s)), ("mask", .int y.m), ("names_in", .ref y.dn)] := ⟨y.x, dx, rfl, hx⟩
   refine ⟨_, (pss_one (ps_ret (pe_op op_modP (pe_op op_fdivB (pv 1) (pe_fld (pv 0) rfl)) (pe_fld (pv 0) rfl)))), ?_⟩
   repeat' (walk_at "rd1")
   exact q
theorem cal_slotof (T : Txt K mg a) : Cal P w K mg base 1 a.f_Wheel_slot_of ["self", "time"] [] (sp_slotof a.C_Wheel) :=
 ⟨⟨_, _, ok_slotof T, T.F_Wheel_slot_of.binds fun _ _ _ _ _ _ => .all fun us hl => match us, hl with | [_, _], _ => rfl, .nil⟩⟩
def layT (cs : List Sl) (slot : Int) (pd : Addr) : List Sl := if (cs.any fun c => decide (c.k = slot)) = true then cs else cs ++ [⟨slot, pd, []⟩]
theorem layT_put (cs : List Sl) (slot : Int) (pd : Addr) (x : Str) : (layT cs slot pd).map (putS slot x) = layS cs slot pd x := by
 unfold layT layS
 split
 . rfl
 . rename_i h
   rw [List.map_append]
   have e1 : cs.map (putS slot x) = cs := by
    conv => rhs; rw [<- List.map_id cs]
    refine List.map_congr_left fun c hc => ?_
    unfold putS
    rw [if_neg fun z => h (any_k.mpr ⟨c, hc, z⟩)]; rfl
   rw [e1]
   simp [putS]
theorem layT_has (cs : List Sl) (slot : Int) (pd : Addr) : ∃ c ∈ layT cs slot pd, c.k = slot := by
 unfold layT
 split
 . rename_i h; exact any_k.mp h
 . exact ⟨_, List.mem_append_right _ (List.mem_singleton.mpr rfl), rfl⟩
theorem layT_nd {cs : List Sl} {slot : Int} {pd : Addr} (h : (cs.map (·.k)).Nodup) : ((layT cs slot pd).map (·.k)).Nodup := by
 unfold layT
 split
 . exact h
 . rename_i hn
   rw [List.map_append, List.nodup_append]
   refine ⟨h, by simp, fun a ha b hb => ?_⟩
   obtain ⟨c, hc, rfl⟩ := List.mem_map.mp ha
   have hb : b = slot := by simpa using hb
   rw [hb]; exact fun z => hn (any_k.mpr ⟨c, hc, z⟩)
def sp_layin (CW : Addr) : Sp := fun vs H Q _ => ∃ (z : Addr) (y : Wh) (x : Str) (t : Int), vs = [.ref z, .str x, .int t] /\ z = y.x /\ WhAt CW H y /\ WhB y /\ y.foot.Nodup /\ (y.cs.map (·.k)).Nodup /\ y.cs.length <= 100 /\ (∀ c ∈ y.cs, c.ns.length <= 3000 /\ (c.k = slotN y t -> x ∉ c.ns)) /\
 ∀ H' pd, Mv y.foot H H' -> WhAt CW H' (y.layed (slotN y t) (Builtin.bitOr y.m (1 * 2 ^ (slotN y t).toNat)) pd x) -> (y.layed (slotN y t) (Builtin.bitOr y.m (1 * 2 ^ (slotN y t).toNat)) pd x).foot.Nodup -> (∀ b ∈ (y.layed (slotN y t) (Builtin.bitOr y.m (1 * 2 ^ (slotN y t).toNat)) pd x).foot, b ∈ y.foot \/ H b = none) -> Q .non H'
theorem ok_layin (T : Txt K mg a) : FnOk P w K mg base CX0 2 a.f_Wheel_lay_in a.fd_Wheel_lay_in ["self", "name", "time"] (sp_layin a.C_Wheel) := by
 have n1 := T.na_Wheel_names_in; have n2 := T.na_Wheel_mask; have cl := T.cl_Wheel
 have m_slot_of := T.m_Wheel_slot_of
 have c_slot_of := cal_slotof (P := P) (w := w) (base := base) T
 refine T.F_Wheel_lay_in.ok sc_Wheel_lay_in (fun vs H Q E h => ?_) (fun cdv A outer s H vs Q E hr h => ?_)
 . obtain ⟨_, _, _, _, rfl, _⟩ := h; rfl
 . obtain ⟨_, y, x, t, rfl, rfl, hw, hb, hfn, hkn, hcl, hns, q⟩ := h
   obtain ⟨dx, hx⟩ := hw.i
   have hi : Ins H (.ref y.x) a.C_Wheel [("unit", .int y.u), ("slots", .int y.s), ("span", .int (y.u * y.s)), ("mask", .int y.m), ("names_in", .ref y.dn)] := ⟨y.x, dx, rfl, hx⟩
   have s0 := slotN_ge hb t
   have s1 := slotN_lt hb t
   have s2 := hb.2.2.2
   refine ⟨_, (pss_cut (ps_set (i := 3) sc_Wheel_lay_in.nd rfl (Or.inl rfl) (pn_meth (pv 0) cl m_slot_of c_slot_of (hr.mono (by decide)) (pa_cons (pv 2) pa_nil)))
    (pss_cutM (ps_if (pt_cmp (pc_dnotin (hu_of hr) (pv 3) (pe_fld (pv 0) rfl)) rfl)
     (pss_one (ps_dput (hu_of hr) (pe_fld (pv 0) rfl) (pv 3) pe_dnewK rfl))
     pss_nil)
    (pss_cut (ps_dput (hu_of hr) (pe_dget (hu_of hr) (pe_fld (pv 0) rfl) (pv 3) (fun _ _ => rfl)) (pv 1) pe_bl rfl)
    (pss_one (ps_fld (pv 0) (pe_op op_or (pe_fld (pv 0) rfl) (pe_op op_shl pe_int (pv 3))) rfl))))), ?_⟩
   repeat' (walk_at "rd1")
   refine u_slotof rfl hw hb ?_
   generalize hsl : slotN y t = slot at *
   refine r_cutM (fun σ' H' => ∃ pd, σ' = [some (.ref y.x), some (.str x), some (.int t), some (.int slot)] /\ Mv y.foot H H' /\ WhAt a.C_Wheel H' ⟨y.x, y.dn, y.u, y.s, y.m, layT y.cs slot pd⟩ /\ (∀ b ∈ Wh.foot ⟨y.x, y.dn, y.u, y.s, y.m, layT y.cs slot pd⟩, b ∈ y.foot \/ H b = none) /\ (Wh.foot ⟨y.x, y.dn, y.u, y.s, y.m, layT y.cs slot pd⟩).Nodup) ?_ ?_
   . repeat' (walk_at "rd1")
     by_cases hp : (y.cs.any fun c => decide (c.k = slot)) = true
     . obtain ⟨c, hc, hk⟩ := any_k.mp hp
       refine ⟨y.dn, some (.ref c.p), rfl, by rw [<- kvS_some hkn hc, hk]; exact DGet.k (k := .inl slot) hw.d, false, rfl, ?_⟩
       repeat' (walk_at "rd1")
       have e : layT y.cs slot y.dn = y.cs := if_pos hp
       exact ⟨y.dn, rfl, Mv.refl, by rw [e]; exact hw, fun b hb => .inl (by rw [e] at hb; exact hb), by rw [e]; exact hfn⟩
     . have hno : ∀ c ∈ y.cs, c.k ≠ slot := fun c hc z => hp (any_k.mpr ⟨c, hc, z⟩)
       refine ⟨y.dn, none, rfl, by rw [<- kvS_none hno]; exact DGet.k (k := .inl slot) hw.d, true, rfl, ?_⟩
       repeat' (walk_at "rd1")
       rename_i pd H2 sm2 hn2 hd2
       have hw2 := hw.keeps sm2
       have e : layT y.cs slot pd = y.cs ++ [⟨slot, pd, []⟩] := if_neg hp
       refine ⟨y.dn, _, rfl, DPut.k (k := .inl slot) hw2.d (by rw [kvS_len]; exact smaller (by omega)), ?_⟩
       have mv3 : Mv [y.dn] H2 (upd H2 y.dn (.dK (putK (kvS y.cs) (.inl slot) (.ref pd)))) := .of_upd hw2.d (by intro _ z; cases z)
       have hal := hw.alive
       have hpn : ∀ b ∈ y.foot, b ≠ pd := fun b hb z => hal b hb (z ▸ hn2)
       have hpd : pd ≠ y.dn := fun z => hpn y.dn (by simp [Wh.foot]) z.symm
       obtain ⟨f1, f2, f3⟩ := foot_nd hfn
       have hpf : (Wh.foot ⟨y.x, y.dn, y.u, y.s, y.m, layT y.cs slot pd⟩) = y.foot ++ [pd] := by
        unfold Wh.foot
        rw [e]; simp
       refine ⟨pd, rfl, (sm2.mv).trans (mv_sub mv3 fun b hb => ?_), ⟨?_, ?_, ?_⟩, fun b hb => ?_, ?_⟩
       . have : b = y.dn := by simpa using hb
         rw [this]; simp [Wh.foot]
       . obtain ⟨dx2, hx2⟩ := hw2.i
         exact ⟨dx2, mv3.at (by simpa using f1) hx2⟩
       . show upd H2 y.dn _ y.dn = some (.dK (kvS (layT y.cs slot pd)))
         rw [upd_same, e, kvS_put hno (ns := [])]
       . intro c hc
         have hc : c ∈ layT y.cs slot pd := hc
         rw [e] at hc
         rcases List.mem_append.mp hc with hc | hc
         . exact (hw2.c c hc).mv mv3 (by simpa using (f2 c hc).2)
         . have hc : c = ⟨slot, pd, []⟩ := by simpa using hc
           subst hc
           exact hd2.mv mv3 (by simpa using hpd)
       . rw [hpf] at hb
         rcases List.mem_append.mp hb with hb | hb
         . exact .inl hb
         . have : b = pd := by simpa using hb
           exact .inr (this ▸ hn2)
       . rw [hpf, List.nodup_append]
         refine ⟨hfn, by simp, fun b hb b' hb' => ?_⟩
         have : b' = pd := by simpa using hb'
         rw [this]; exact hpn b hb
   . rintro σ' H' ⟨pd, rfl, mv, hw', hft, hfn'⟩
     obtain ⟨dx', hx'⟩ := hw'.i
     have hi' : Ins H' (.ref y.x) a.C_Wheel [("unit", .int y.u), ("slots", .int y.s), ("span", .int (y.u * y.s)), ("mask", .int y.m), ("names_in", .ref y.dn)] := ⟨y.x, dx', rfl, hx'⟩
     repeat' (walk_at "rd1")
     obtain ⟨c, hc, hk⟩ := layT_has y.cs slot pd
     have hcx : x ∉ c.ns /\ c.ns.length <= 3000 := by
      have hc' := hc
      unfold layT at hc'
      split at hc'
      . exact ⟨(hns c hc').2 hk, (hns c hc').1⟩
      . rcases List.mem_append.mp hc' with hc' | hc'
        . exact ⟨(hns c hc').2 hk, (hns c hc').1⟩
        . have hc' : c = ⟨slot, pd, []⟩ := by simpa using hc'
          subst hc'
          exact ⟨by simp, by simp⟩
     refine ⟨y.dn, .ref c.p, rfl, by rw [<- kvS_some (layT_nd hkn) hc, hk]; exact DGet.k (k := .inl slot) hw'.d, ?_⟩
     repeat' (walk_at "rd1")
     refine r_dput (hw'.c c hc) (by rw [nsD_len]; omega) (.bl true) rfl (fun H2 mv2 hd2 => ?_)
     rw [nsD_put hcx.1] at hd2
     obtain ⟨f1, f2, f3⟩ := foot_nd hfn'
     have hx2 := mv2.at (by simpa using Ne.symm (f2 c hc).1) hx'
     have hi2 : Ins H2 (.ref y.x) a.C_Wheel [("unit", .int y.u), ("slots", .int y.s), ("span", .int (y.u * y.s)), ("mask", .int y.m), ("names_in", .ref y.dn)] := ⟨y.x, dx', rfl, hx2⟩
     repeat' (walk_at "rd1")
     refine r_i ⟨s0, by omega, by decide⟩ ?_
     repeat' (walk_at "rd1")
     have mv3 : Mv [y.x] H2 (upd H2 y.x (.ins a.C_Wheel dx' (whF y.u y.s (Builtin.bitOr y.m (1 * 2 ^ slot.toNat)) y.dn))) := .of_upd hx2 (by intro _ z; cases z)
     have ef : (y.layed slot (Builtin.bitOr y.m (1 * 2 ^ slot.toNat)) pd x).foot = Wh.foot ⟨y.x, y.dn, y.u, y.s, y.m, layT y.cs slot pd⟩ := by
      unfold Wh.foot Wh.layed
      rw [<- layT_put, List.map_map, show (Sl.p ∘ putS slot x) = Sl.p from funext (putS_p slot x)]
     have hfx : y.x ∈ y.foot := by simp [Wh.foot]
     have hcp : c.p ∈ y.foot \/ H c.p = none := hft c.p (List.mem_cons_of_mem _ (List.mem_cons_of_mem _ (List.mem_map_of_mem (f := (·.p)) hc)))
     refine q _ pd (Mv.step (Mv.step mv mv2 fun b hb => (List.mem_singleton.mp hb) ▸ hcp) mv3 fun b hb => .inl ((List.mem_singleton.mp hb) ▸ hfx)) ⟨⟨dx', upd_same⟩, ?_, ?_⟩ (by rw [ef]; exact hfn') (by rw [ef]; exact hft)
     . show upd H2 y.x _ y.dn = some (.dK (kvS (layS y.cs slot pd x)))
       rw [<- layT_put, kvS_map (putS_k slot x) (putS_p slot x)]
       exact mv3.at (by simpa using Ne.symm f1) (mv2.at (by simpa using Ne.symm (f2 c hc).2) hw'.d)
     . intro d hd
       have hd : d ∈ layS y.cs slot pd x := hd
       rw [<- layT_put] at hd
       obtain ⟨d0, hd0, rfl⟩ := List.mem_map.mp hd
       have hpx : (putS slot x d0).p ≠ y.x := by rw [putS_p]; exact (f2 d0 hd0).1
       by_cases e : d0 = c
       . subst e
         have : putS slot x d0 = ⟨d0.k, d0.p, d0.ns ++ [x]⟩ := if_pos hk
         rw [this]
         exact hd2.mv mv3 (by simpa using (f2 d0 hd0).1)
       . have hk0 : d0.k ≠ slot := fun z => e (k_inj (layT_nd hkn) hd0 hc (z.trans hk.symm))
         have : putS slot x d0 = d0 := if_neg hk0
         rw [this]
         exact ((hw'.c d0 hd0).mv mv2 (by simpa using fun z => e (p_inj f3 hd0 hc z))).mv mv3 (by simpa using (f2 d0 hd0).1)
theorem cal_layin (T : Txt K mg a) : Cal P w K mg base 2 a.f_Wheel_lay_in ["self", "name", "time"] [] (sp_layin a.C_Wheel) :=
 ⟨⟨_, _, ok_layin T, T.F_Wheel_lay_in.binds fun _ _ _ _ _ _ => .all fun us hl => match us, hl with | [_, _, _], _ => rfl, .nil⟩⟩
theorem dropS_sub (cs : List Sl) (slot : Int) : ((dropS cs slot).map (·.p)).Sublist (cs.map (·.p)) := (List.filter_sublist).map _
theorem emptied_foot (w : Wh) (slot m : Int) : (w.emptied slot m).foot.Sublist w.foot := by
 unfold Wh.foot Wh.emptied
 exact ((dropS_sub w.cs slot).cons₂ _).cons₂ _
def sp_empty (CW : Addr) : Sp := fun vs H Q _ => ∃ (z : Addr) (y : Wh) (slot : Int) (c : Sl), vs = [.ref z, .int slot] /\ z = y.x /\ WhAt CW H y /\ WhB y /\ y.foot.Nodup /\ (y.cs.map (·.k)).Nodup /\ c ∈ y.cs /\ c.k = slot /\ 0 <= slot /\ slot < 60 /\
 ∀ l H', Mv y.foot H H' -> WhAt CW H' (y.emptied slot (Builtin.bitXor y.m (1 * 2 ^ slot.toNat))) -> H l = none -> LAt H' l (c.ns.map PyData.str) -> Q (.ref l) H'
theorem ok_empty (T : Txt K mg a) : FnOk P w K mg base CX0 1 a.f_Wheel_empty a.fd_Wheel_empty ["self", "slot"] (sp_empty a.C_Wheel) := by
 have n1 := T.na_Wheel_names_in; have n2 := T.na_Wheel_mask; have cl := T.cl_Wheel
 refine T.F_Wheel_empty.ok sc_Wheel_empty (fun vs H Q E h => ?_) (fun cdv A outer s H vs Q E hr h => ?_)
 . obtain ⟨_, _, _, _, rfl, _⟩ := h; rfl
 . obtain ⟨_, y, slot, c, rfl, rfl, hw, hb, hfn, hkn, hc, hk, s0, s1, q⟩ := h
   obtain ⟨dx, hx⟩ := hw.i
   have hi : Ins H (.ref y.x) a.C_Wheel [("unit", .int y.u), ("slots", .int y.s), ("span", .int (y.u * y.s)), ("mask", .int y.m), ("names_in", .ref y.dn)] := ⟨y.x, dx, rfl, hx⟩
   obtain ⟨f1, f2, f3⟩ := foot_nd hfn
   refine ⟨_, (pss_cut (ps_fld (pv 0) (pe_op op_xor (pe_fld (pv 0) rfl) (pe_op op_shl pe_int (pv 1))) rfl)
    (pss_one (ps_ret (pe_callTy (call_listD rfl) rfl T.no_list PyProof.Rows.boot_list (pa_cons (pe_bm PySem.F.plainAttrs_dict PySem.F.slot_dict_pop PySem.F.type_dict_pop mt_dpop (pe_fld (pv 0) rfl) (pa_cons (pv 1) pa_nil)) pa_nil))))), ?_⟩
   repeat' (walk_at "rd1")
   refine r_i ⟨s0, by omega, by decide⟩ ?_
   repeat' (walk_at "rd1")
   have mv1 : Mv [y.x] H (upd H y.x (.ins a.C_Wheel dx (whF y.u y.s (Builtin.bitXor y.m (1 * 2 ^ slot.toNat)) y.dn))) := .of_upd hx (by intro _ z; cases z)
   have hx1 : upd H y.x (.ins a.C_Wheel dx (whF y.u y.s (Builtin.bitXor y.m (1 * 2 ^ slot.toNat)) y.dn)) y.x = some (.ins a.C_Wheel dx (whF y.u y.s (Builtin.bitXor y.m (1 * 2 ^ slot.toNat)) y.dn)) := upd_same
   have ep : putF "mask" (.int (Builtin.bitXor y.m (1 * 2 ^ slot.toNat))) (whF y.u y.s y.m y.dn) = whF y.u y.s (Builtin.bitXor y.m (1 * 2 ^ slot.toNat)) y.dn := by unfold whF; walk_at "put"
   rw [ep]
   have hd1 := mv1.at (by simpa using Ne.symm f1) hw.d
   have hc1 : ∀ d ∈ y.cs, DAt _ d.p (nsD d.ns) := fun d hd => (hw.c d hd).mv mv1 (by simpa using (f2 d hd).1)
   generalize upd H y.x (.ins a.C_Wheel dx (whF y.u y.s (Builtin.bitXor y.m (1 * 2 ^ slot.toNat)) y.dn)) = H1 at *
   refine ⟨.inr (.inr (.inl ⟨rfl, .inl ⟨_, hd1⟩⟩)), ?_⟩
   repeat' (walk_at "rd1")
   refine ⟨y.dn, kvS y.cs, .inl slot, .ref c.p, rfl, rfl, hd1, by rw [<- hk]; exact kvS_some hkn hc, ?_⟩
   rw [kvS_drop]
   have mv2 : Mv [y.dn] H1 (upd H1 y.dn (.dK (kvS (dropS y.cs slot)))) := .of_upd hd1 (by intro _ z; cases z)
   have hd2 : upd H1 y.dn (.dK (kvS (dropS y.cs slot))) y.dn = some (.dK (kvS (dropS y.cs slot))) := upd_same
   have hx2 := mv2.at (by simpa using f1) hx1
   have hc2 : ∀ d ∈ y.cs, DAt _ d.p (nsD d.ns) := fun d hd => (hc1 d hd).mv mv2 (by simpa using (f2 d hd).2)
   generalize upd H1 y.dn (.dK (kvS (dropS y.cs slot))) = H2 at *
   repeat' (walk_at "rd1")
   refine r_listD (hc2 c hc).rd (fun l H3 sm3 hn3 hl3 => ?_)
   repeat' (walk_at "rd1")
   have hfx : y.x ∈ y.foot := by simp [Wh.foot]
   have hfd : y.dn ∈ y.foot := by simp [Wh.foot]
   have mv : Mv y.foot H H2 := (mv_sub mv1 fun b hb => (List.mem_singleton.mp hb) ▸ hfx).trans (mv_sub mv2 fun b hb => (List.mem_singleton.mp hb) ▸ hfd)
   refine q l H3 (mv.stepS sm3) ⟨⟨dx, sm3 _ _ hx2⟩, sm3 _ _ hd2, fun d hd => (hc2 d (List.mem_filter.mp hd).1).keeps sm3⟩ (mv.none hn3) ?_
   have e : (nsD c.ns).map (·.1) = c.ns := by unfold nsD; rw [List.map_map]; exact List.map_id _
   rw [e] at hl3; exact hl3
theorem cal_empty (T : Txt K mg a) : Cal P w K mg base 1 a.f_Wheel_empty ["self", "slot"] [] (sp_empty a.C_Wheel) :=
 ⟨⟨_, _, ok_empty T, T.F_Wheel_empty.binds fun _ _ _ _ _ _ => .all fun us hl => match us, hl with | [_, _], _ => rfl, .nil⟩⟩
def sp_place : Sp := fun vs H Q _ => ∃ (f : Addr) (far : List (Int × Str)) (v : V) (c : Int × Str), vs = [.ref f, v] /\ LAt H f (far.map pairD) /\ Dv H v (pairD c) /\ far.length <= 3000 /\ (far.Pairwise fun c d => ltIS d c = true) /\ ∀ i : Nat, Plc far c i -> Q (.int i) H
theorem ok_place (T : Txt K mg a) : FnOk P w K mg base CX0 1 a.f_place_in a.fd_place_in ["row", "pair"] sp_place := by
 refine T.F_place_in.ok sc_place_in (fun vs H Q E h => ?_) (fun cdv A outer s H vs Q E hr h => ?_)
 . obtain ⟨_, _, _, _, rfl, _⟩ := h; rfl
 . obtain ⟨f, far, v, c, rfl, hf, hv, hlen, hpw, q⟩ := h
   have hfl : (far.map pairD).length = far.length := List.length_map ..
   refine ⟨_, (pss_cut (ps_set (i := 2) sc_place_in.nd rfl (Or.inl rfl) pe_int)
    (pss_cut (ps_set (i := 3) sc_place_in.nd rfl (Or.inl rfl) (pe_callB call_lenK rfl T.no_len PySem.boot_len (pa_cons (pv 0) pa_nil)))
    (pss_cut (ps_while PassesOwn.never (pt_cmpR op_lt (pv 2) (pv 3) (nomark _))
     (pss_cut (ps_set (i := 4) sc_place_in.nd rfl (Or.inl rfl) (pe_op op_fdivB (pe_op op_add (pv 2) (pv 3)) pe_int))
     (pss_one (ps_if (pt_cmpR (op_gtP (Nat.lt_of_succ_lt (hu_of hr))) (pe_ix ix_K (pv 0) (pv 4) (fun _ _ => rfl)) (pv 1) (nomark _))
      (pss_one (ps_set (i := 2) sc_place_in.nd rfl (Or.inl rfl) (pe_op op_add (pv 4) pe_int)))
      (pss_one (ps_set (i := 3) sc_place_in.nd rfl (Or.inl rfl) (pv 4)))))))
    (pss_one (ps_ret (pv 2)))))), ?_⟩
   repeat' (walk_at "rd1")
   refine r_while (fun m σ' H' => ∃ (lo hi : Nat) (z : Option V), σ' = [some (.ref f), some v, some (.int lo), some (.int hi), z] /\ H' = H /\ m = hi - lo /\ lo <= hi /\ hi <= far.length /\ (∀ j d, j < lo -> far[j]? = some d -> ltIS c d = true) /\ ∀ j d, hi <= j -> far[j]? = some d -> ltIS c d = false) ⟨far.length, 0, far.length, none, rfl, rfl, rfl, Nat.zero_le _, Nat.le_refl _, fun j d h => by omega, fun j d h hd => by have := (List.getElem?_eq_some_iff.mp hd).1; omega⟩ ?_
   rintro m σ' H' ⟨lo, hi, z, rfl, rfl, rfl, h1, h2, h3, h4⟩
   repeat' (walk_at "rd1")
   . rename_i hb x hx
     have hmid : ((lo : Int) + hi) / 2 = (((lo + hi) / 2 : Nat) : Int) := by omega
     have hml : (lo + hi) / 2 < far.length := by omega
     have hm1 : lo <= (lo + hi) / 2 := by omega
     have hm2 : (lo + hi) / 2 < hi := by omega
     rw [hmid, Int.toNat_natCast, List.getD_eq_getElem?_getD, List.getElem?_eq_getElem hml, Option.getD_some] at hx
     rw [hmid]
     have hat : far[(lo + hi) / 2]? = some far[(lo + hi) / 2] := List.getElem?_eq_getElem hml
     generalize far[(lo + hi) / 2] = e at hx hat
     generalize (lo + hi) / 2 = mid at *
     refine r_gtP hx hv ?_
     have pw := List.pairwise_iff_getElem.mp hpw
     have pw2 : ∀ i j d1 d2, i < j -> far[i]? = some d1 -> far[j]? = some d2 -> ltIS d2 d1 = true := fun i j d1 d2 hij e1 e2 => by
      obtain ⟨a1, rfl⟩ := List.getElem?_eq_some_iff.mp e1
      obtain ⟨a2, rfl⟩ := List.getElem?_eq_some_iff.mp e2
      exact pw i j a1 a2 hij
     repeat' (walk_at "rd1")
     . rename_i hlt
       refine ⟨hi - (mid + 1), by omega, mid + 1, hi, some (.int mid), rfl, rfl, rfl, by omega, h2, fun j d hj hd => ?_, h4⟩
       by_cases e1 : j = mid
       . subst e1
         rw [hat] at hd; cases hd; exact hlt
       . exact ltIS_lt_of hlt (pw2 j mid d e (by omega) hd hat)
     . rename_i hlt
       refine ⟨mid - lo, by omega, lo, mid, some (.int mid), rfl, rfl, rfl, hm1, by omega, h3, fun j d hj hd => ?_⟩
       by_cases e1 : j = mid
       . subst e1
         rw [hat] at hd; cases hd
         exact hlt
       . cases e2 : ltIS c d with
         | false => rfl
         | true => rw [ltIS_lt_of e2 (pw2 mid j e d (by omega) hat hd)] at hlt; cases hlt
   . rename_i hb
     have e : lo = hi := by omega
     subst e
     exact q lo ⟨h2, h3, h4⟩
theorem cal_place (T : Txt K mg a) : Cal P w K mg base 1 a.f_place_in ["row", "pair"] [] sp_place :=
 ⟨⟨_, _, ok_place T, T.F_place_in.binds fun _ _ _ _ _ _ => .all fun us hl => match us, hl with | [_, _], _ => rfl, .nil⟩⟩
def wsF (n : Int) (d q f m : Addr) : List (Str × V) := [("now", .int n), ("times", .ref d), ("wheels", .ref q), ("far", .ref f), ("moves", .ref m)]
def sp_wheelat (C CW : Addr) : Sp := fun vs H Q _ => ∃ (p dx d m : Addr) (n : Int) (G : Geo) (us : List (Int × Int)) (t nw : Int), vs = [.ref p, .int t, .int nw] /\ H p = some (.ins C dx (wsF n d G.q G.f m)) /\ GAt CW H G /\ G.ws.map (fun w => (w.u, w.s)) = us /\ UsOk us /\ ∀ H', Same H H' -> Q (.int (wAt us t nw : Nat)) H'
theorem ok_wheelat (T : Txt K mg a) : FnOk P w K mg base CX0 2 a.f_Wheels_wheel_at a.fd_Wheels_wheel_at ["self", "time", "now"] (sp_wheelat a.C_Wheels a.C_Wheel) := by
 have n1 := T.na_Wheels_wheels; have cl := T.cl_Wheels
 have c_Wheel_holds := cal_holds (P := P) (w := w) (base := base) T
 refine T.F_Wheels_wheel_at.ok sc_Wheels_wheel_at (fun vs H Q E h => ?_) (fun cdv A outer s H vs Q E hr h => ?_)
 . obtain ⟨_, _, _, _, _, _, _, _, _, rfl, _⟩ := h; rfl
 . obtain ⟨p, dx, d, m, n, G, us, t, nw, rfl, hp, hg, hus, hok, q⟩ := h
   have hi : Ins H (.ref p) a.C_Wheels [("now", .int n), ("times", .ref d), ("wheels", .ref G.q), ("far", .ref G.f), ("moves", .ref m)] := ⟨p, dx, rfl, hp⟩
   have hul : us.length = G.ws.length := by rw [<- hus, List.length_map]
   refine ⟨_, (pss_cut (ps_for PassesOwn.never rfl (pi_enum rfl T.no_enumerate (pa_cons (pe_fld (pv 0) rfl) pa_nil)) (pg_tup (n := 2) rfl (pgs_cons (pg_name (i := 3) sc_Wheels_wheel_at.nd rfl (Or.inl rfl)) (pgs_cons (pg_name (i := 4) sc_Wheels_wheel_at.nd rfl (Or.inl rfl)) pgs_nil)))
    (pss_one (ps_if (pt_truth (pn_meth (pv 4) T.cl_Wheel T.m_Wheel_holds c_Wheel_holds (hr.mono (by decide)) (pa_cons (pv 1) (pa_cons (pv 2) pa_nil))) (fun _ => rfl))
     (pss_one (ps_ret (pv 3)))
     pss_nil)))
    (pss_one (ps_ret (pe_callB call_lenK rfl T.no_len PySem.boot_len (pa_cons (pe_fld (pv 0) rfl) pa_nil))))), ?_⟩
   repeat' (walk_at "rd1")
   refine forEV (xs := G.ws.map fun w => V.ref w.x) (fun i σ' H' => ∃ z1 z2, σ' = [some (.ref p), some (.int t), some (.int nw), z1, z2] /\ Same H H' /\ ∀ j q, j < i -> us[j]? = some q -> ¬ t / (q.1 * q.2) = nw / (q.1 * q.2)) ⟨_, _, rfl, Same.refl _, fun j q h => by omega⟩ (fun i σ' H' _ ⟨_, _, _, sm, _⟩ => sm _ _ hg.q) ?_ ?_
   . rintro i x tt σ' H' hx ⟨z1, z2, rfl, sm, hno⟩ htt
     obtain ⟨y, hy, rfl⟩ : ∃ y, G.ws[i]? = some y /\ V.ref y.x = x := by
      rw [List.getElem?_map] at hx
      cases e : G.ws[i]? with
      | none => rw [e] at hx; cases hx
      | some y => rw [e] at hx; exact ⟨y, rfl, Option.some.inj hx⟩
     have hui : us[i]? = some (y.u, y.s) := by rw [<- hus, List.getElem?_map, hy]; rfl
     have sm2 : Same H (upd H' tt (.tup [.int (i : Int), .ref y.x])) := sm.trans (same_upd htt)
     refine r_unpV upd_same ?_
     generalize upd H' tt (.tup [.int (i : Int), .ref y.x]) = H2 at *
     have hwy := (hg.w y (List.mem_of_getElem? hy)).keeps sm2
     obtain ⟨dxy, hxy⟩ := hwy.i
     have hiy : Ins H2 (.ref y.x) a.C_Wheel [("unit", .int y.u), ("slots", .int y.s), ("span", .int (y.u * y.s)), ("mask", .int y.m), ("names_in", .ref y.dn)] := ⟨y.x, dxy, rfl, hxy⟩
     repeat' (walk_at "rd1")
     refine u_holds rfl hwy (hok _ (List.mem_of_getElem? hui)) ?_
     repeat' (walk_at "rd1")
     . rename_i hb
       have e : wAt us t nw = i := wAt_eq hno (.inr ⟨_, hui, hb⟩)
       have := q H2 sm2
       rw [e] at this
       exact this
     . rename_i hb
       refine ⟨_, _, rfl, sm2, fun j q hj hq => ?_⟩
       by_cases e : j = i
       . subst e
         rw [hui] at hq; cases hq; exact hb
       . exact hno j q (by omega) hq
   . rintro σ' H' ⟨z1, z2, rfl, sm, hno⟩
     have hi1 := hi.keeps sm
     have hq1 := sm _ _ hg.q
     repeat' (walk_at "rd1")
     refine r_lenL (.of hq1) ?_
     rw [List.length_map] at hno ⊢
     have e : wAt us t nw = G.ws.length := wAt_eq hno (.inl hul.symm)
     have := q H' sm
     rw [e] at this
     exact this
theorem cal_wheelat (T : Txt K mg a) : Cal P w K mg base 2 a.f_Wheels_wheel_at ["self", "time", "now"] [] (sp_wheelat a.C_Wheels a.C_Wheel) :=
 ⟨⟨_, _, ok_wheelat T, T.F_Wheels_wheel_at.binds fun _ _ _ _ _ _ => .all fun us hl => match us, hl with | [_, _, _], _ => rfl, .nil⟩⟩
def sp_lie (C CW : Addr) : Sp := fun vs H Q _ => ∃ (p dx d m : Addr) (n : Int) (G : Geo) (us : List (Int × Int)) (ts : List (Str × Int)) (x : Str) (t nw : Int), vs = [.ref p, .str x, .int t, .int nw] /\ H p = some (.ins C dx (wsF n d G.q G.f m)) /\ GAt CW H G /\ GI us nw ts G /\ UsOk us /\ p ∉ G.foot /\ x ∉ ts.map (·.1) /\ ts.length <= 2000 /\
 ∀ H' G', Mv G.foot H H' -> GAt CW H' G' -> GI us nw (ts ++ [(x, t)]) G' -> G'.q = G.q -> G'.f = G.f -> (∀ b ∈ G'.foot, b ∈ G.foot \/ H b = none) -> Q .non H'
theorem at_idx {ws : List Wh} {k : Nat} {y : Wh} (h : ws[k]? = some y) : atI (ws.map fun w => V.ref w.x) (k : Int) = some (.ref y.x) := by
 obtain ⟨hk, rfl⟩ := List.getElem?_eq_some_iff.mp h
 unfold atI ixN
 rw [if_pos (by omega), List.length_map, if_pos (by omega)]
 simp [hk]
theorem ok_lie (T : Txt K mg a) : FnOk P w K mg base CX0 3 a.f_Wheels_lie_down a.fd_Wheels_lie_down ["self", "name", "time", "now"] (sp_lie a.C_Wheels a.C_Wheel) := by
 have n1 := T.na_Wheels_wheels; have n2 := T.na_Wheels_far; have cl := T.cl_Wheels
 have m_wheel_at := T.m_Wheels_wheel_at
 have c_wheel_at := cal_wheelat (P := P) (w := w) (base := base) T
 have c_Wheel_lay_in := cal_layin (P := P) (w := w) (base := base) T
 have c_place_in := cal_place (P := P) (w := w) (base := base) T
 refine T.F_Wheels_lie_down.ok sc_Wheels_lie_down (fun vs H Q E h => ?_) (fun cdv A outer s H vs Q E hr h => ?_)
 . obtain ⟨_, _, _, _, _, _, _, _, _, _, _, rfl, _⟩ := h; rfl
 . obtain ⟨p, dx, d, m, n, G, us, ts, x, t, nw, rfl, hp, hg, hgi, hok, hpf, hx, hlen, q⟩ := h
   have hi : Ins H (.ref p) a.C_Wheels [("now", .int n), ("times", .ref d), ("wheels", .ref G.q), ("far", .ref G.f), ("moves", .ref m)] := ⟨p, dx, rfl, hp⟩
   have hul := hgi.len
   refine ⟨_, (pss_cut (ps_set (i := 4) sc_Wheels_lie_down.nd rfl (Or.inl rfl) (pn_meth (pv 0) cl m_wheel_at c_wheel_at (hr.mono (by decide)) (pa_cons (pv 2) (pa_cons (pv 3) pa_nil))))
    (pss_one (ps_if (pt_cmpR op_lt (pv 4) (pe_callB call_lenK rfl T.no_len PySem.boot_len (pa_cons (pe_fld (pv 0) rfl) pa_nil)) (nomark _))
     (pss_one (ps_expr (pn_meth (pe_ix ix_K (pe_fld (pv 0) rfl) (pv 4) (fun _ _ => rfl)) T.cl_Wheel T.m_Wheel_lay_in c_Wheel_lay_in (hr.mono (by decide)) (pa_cons (pv 1) (pa_cons (pv 2) pa_nil)))))
     (pss_one (ps_expr (pe_bm PySem.F.plainAttrs_list PySem.F.slot_list_insert PySem.F.type_list_insert mt_insert (pe_fld (pv 0) rfl) (pa_cons (pn_call c_place_in (hr.mono (by decide)) rfl T.mg_place_in T.kp_place_in (pa_cons (pe_fld (pv 0) rfl) (pa_cons (pe_tupD (pa_cons (pv 2) (pa_cons (pv 1) pa_nil))) pa_nil))) (pa_cons (pe_tupD (pa_cons (pv 2) (pa_cons (pv 1) pa_nil))) pa_nil)))))))), ?_⟩
   repeat' (walk_at "rd1")
   refine ⟨p, dx, d, m, n, G, us, t, nw, rfl, hp, hg, hgi.eu, hok, fun H1 sm1 => ?_⟩
   have hi1 := hi.keeps sm1
   have hg1 := hg.keeps sm1
   repeat' (walk_at "rd1")
   refine r_lenL (.of hg1.q) ?_
   rw [List.length_map]
   repeat' (walk_at "rd1")
   . rename_i hb
     have hlt : wAt us t nw < G.ws.length := by omega
     have hy : G.ws[wAt us t nw]? = some G.ws[wAt us t nw] := List.getElem?_eq_getElem hlt
     generalize G.ws[wAt us t nw] = y at hy
     refine r_ixL (.of hg1.q) (at_idx hy) ?_
     have hym := List.mem_of_getElem? hy
     have hwy := hg1.w y hym
     have hby := hgi.bnd hok hy
     obtain ⟨sm1', sm2'⟩ := hgi.small hok hy
     have hyi := hgi.wh _ y hy
     obtain ⟨dxy, hxy⟩ := hwy.i
     have hiy : Ins H1 (.ref y.x) a.C_Wheel [("unit", .int y.u), ("slots", .int y.s), ("span", .int (y.u * y.s)), ("mask", .int y.m), ("names_in", .ref y.dn)] := ⟨y.x, dxy, rfl, hxy⟩
     repeat' (walk_at "rd1")
     have hfy : y.foot.Nodup := by
      have := hg.foot1.2.2
      obtain ⟨e1, _⟩ := split_at hy y
      rw [e1, List.flatMap_append, List.flatMap_cons, List.nodup_append, List.nodup_append] at this
      exact this.2.1.1
     refine ⟨y.x, y, x, t, rfl, rfl, hwy, hby, hfy, hyi.nd, by omega, fun c hc => ⟨by have := sm2' c hc; omega, fun _ hxc => ?_⟩, fun H2 pd mv2 hw2 hf2 hs2 => ?_⟩
     . obtain ⟨t', ht', _⟩ := (hyi.mem x c.k).mp ⟨c, hc, rfl, hxc⟩
       exact hx (List.mem_map.mpr ⟨_, ht', rfl⟩)
     . repeat' (walk_at "rd1")
       obtain ⟨hg2, hft⟩ := hg1.set hy mv2 hw2 rfl hf2 hs2
       refine q H2 _ ((sm1.mv).trans (mv_sub mv2 (foot_w hym))) hg2 (hgi.lay hx hy (by have := hby.2.2.1; omega) (mask_lay hyi.mk' (slotN_ge hby t))) rfl rfl fun b hb => ?_
       rcases hft b hb with r | r
       . exact .inl r
       . exact .inr (sm1.none r)
   . rename_i hb
     have hfar : wAt us t nw = us.length := by have := wAt_le us t nw; omega
     have hfl := hgi.farlen
     have hf1 := hg1.f
     refine r_tyL hf1 ?_
     repeat' (walk_at "rd1")
     rename_i v2 H2 sm2 hv2
     have hf2 := hf1.keeps sm2
     refine ⟨G.f, G.far, v2, (t, x), rfl, hf2, hv2, by omega, hgi.srt, fun i hi' => ?_⟩
     repeat' (walk_at "rd1")
     rename_i v3 H3 sm3 hv3
     have hf3 := hf2.keeps sm3
     refine r_insP hf3 (k := (t, x)) hv3 (by omega) (by have := hi'.1; omega) (by omega) (fun H4 mv4 hf4 => ?_)
     repeat' (walk_at "rd1")
     rw [Int.toNat_natCast] at hf4
     have sm := (sm1.trans sm2).trans sm3
     have hgf : G.f ∈ G.foot := by simp [Geo.foot]
     exact q H4 _ ((sm.mv).trans (mv_sub mv4 fun b hb => (List.mem_singleton.mp hb) ▸ hgf)) ((hg.keeps sm).setF mv4 hf4) (hgi.layFar hx hfar hi') rfl rfl fun b hb => .inl hb
theorem cal_lie (T : Txt K mg a) : Cal P w K mg base 3 a.f_Wheels_lie_down ["self", "name", "time", "now"] [] (sp_lie a.C_Wheels a.C_Wheel) :=
 ⟨⟨_, _, ok_lie T, T.F_Wheels_lie_down.binds fun _ _ _ _ _ _ => .all fun us hl => match us, hl with | [_, _, _, _], _ => rfl, .nil⟩⟩
def tmD (ts : List (Str × Int)) : List (Str × PyData) := ts.map fun x => (x.1, .int x.2)
theorem tmD_len (ts : List (Str × Int)) : (tmD ts).length = ts.length := List.length_map ..
theorem tmD_app (ts : List (Str × Int)) (x : Str) (t : Int) : tmD (ts ++ [(x, t)]) = tmD ts ++ [(x, .int t)] := by unfold tmD; rw [List.map_append]; rfl
theorem putD_new {m : List (Str × PyData)} {k : Str} {d : PyData} (h : lkp m k = none) : putD m k d = m ++ [(k, d)] := by
 unfold putD
 rw [if_neg]
 unfold lkp at h
 rw [Option.map_eq_none_iff, List.find?_eq_none] at h
 simp only [List.any_eq_true, not_exists, not_and]
 exact h
theorem drop_tmD (ts : List (Str × Int)) (x : Str) : dropD (tmD ts) x = tmD (dropT ts x) := by
 unfold dropD tmD dropT
 rw [List.filter_map]
 congr 1
 refine List.filter_congr fun y _ => ?_
 simp
theorem tm_none {ts : List (Str × Int)} {x : Str} (h : x ∉ ts.map (·.1)) : lkp (tmD ts) x = none := by
 unfold lkp tmD
 rw [Option.map_eq_none_iff, List.find?_eq_none]
 intro kv hkv
 obtain ⟨y, hy, rfl⟩ := List.mem_map.mp hkv
 have : y.1 ≠ x := fun z => h (z ▸ List.mem_map_of_mem (f := (·.1)) hy)
 simpa using this
theorem tm_lkp {ts : List (Str × Int)} (h : (ts.map (·.1)).Nodup) {x : Str} {t : Int} (hx : (x, t) ∈ ts) : lkp (tmD ts) x = some (.int t) := by
 unfold lkp tmD
 rw [List.find?_map]
 induction ts with
 | nil => cases hx
 | cons y r ih =>
   rw [List.map_cons, List.nodup_cons] at h
   rw [List.find?_cons]
   by_cases e : y.1 = x
   . simp only [Function.comp, e, decide_true]
     rcases List.mem_cons.mp hx with rfl | hx'
     . rfl
     . exact absurd (List.mem_map_of_mem (f := (·.1)) hx') (e ▸ h.1)
   . simp only [Function.comp, e, decide_false]
     rcases List.mem_cons.mp hx with rfl | hx'
     . exact absurd rfl e
     . exact ih h.2 hx'
theorem tm_mem {ts : List (Str × Int)} {x : Str} {t : Int} (h : lkp (tmD ts) x = some (.int t)) : (x, t) ∈ ts := by
 unfold lkp at h
 obtain ⟨kv, h1, h2⟩ := Option.map_eq_some_iff.mp h
 have h3 := List.find?_some h1
 obtain ⟨y, hy, rfl⟩ := List.mem_map.mp (List.mem_of_find?_eq_some h1)
 have e1 : y.1 = x := by simpa using h3
 have e2 : y.2 = t := by
  have : PyData.int y.2 = .int t := h2
  injection this
 rw [<- e1, <- e2]; exact hy
theorem tmD_int {ts : List (Str × Int)} {x : Str} {e : PyData} (h : lkp (tmD ts) x = some e) : ∃ t, e = .int t := by
 unfold lkp at h
 obtain ⟨kv, h1, rfl⟩ := Option.map_eq_some_iff.mp h
 obtain ⟨y, _, rfl⟩ := List.mem_map.mp (List.mem_of_find?_eq_some h1)
 exact ⟨_, rfl⟩
theorem tm_isSome {ts : List (Str × Int)} {x : Str} : (lkp (tmD ts) x).isSome = true ↔ x ∈ ts.map (·.1) := by
 constructor
 . intro h
   obtain ⟨e, he⟩ := Option.isSome_iff_exists.mp h
   obtain ⟨t, rfl⟩ := tmD_int he
   exact List.mem_map.mpr ⟨_, tm_mem he, rfl⟩
 . intro h
   cases e : lkp (tmD ts) x with
   | some _ => rfl
   | none =>
     exfalso
     obtain ⟨y, hy, rfl⟩ := List.mem_map.mp h
     unfold lkp at e
     rw [Option.map_eq_none_iff, List.find?_eq_none] at e
     exact e (y.1, .int y.2) (List.mem_map.mpr ⟨y, hy, rfl⟩) (by simp)
structure WsAt (C CW : Addr) (H : Hp) (p d m : Addr) (n : Int) (G : Geo) (tt mvs : List (Str × Int)) : Prop where
 ex : ∃ dx, H p = some (.ins C dx (wsF n d G.q G.f m))
 dd : DAt H d (tmD tt)
 mm : DAt H m (tmD mvs)
 g : GAt CW H G
 nd : (p :: d :: m :: G.foot).Nodup
theorem WsAt.keeps {C CW p d m : Addr} {H H' : Hp} {n : Int} {G : Geo} {tt mvs : List (Str × Int)} (sm : Same H H') (h : WsAt C CW H p d m n G tt mvs) : WsAt C CW H' p d m n G tt mvs :=
 ⟨let ⟨dx, e⟩ := h.ex; ⟨dx, sm _ _ e⟩, h.dd.keeps sm, h.mm.keeps sm, h.g.keeps sm, h.nd⟩
theorem WsAt.mv {C CW p d m : Addr} {S : List Addr} {H H' : Hp} {n : Int} {G : Geo} {tt mvs : List (Str × Int)} (mv : Mv S H H') (hn : ∀ b ∈ p :: d :: m :: G.foot, b ∉ S) (h : WsAt C CW H p d m n G tt mvs) : WsAt C CW H' p d m n G tt mvs :=
 ⟨let ⟨dx, e⟩ := h.ex; ⟨dx, mv.at (hn _ (by simp)) e⟩, h.dd.mv mv (hn _ (by simp)), h.mm.mv mv (hn _ (by simp)), h.g.mv mv (fun b hb => hn b (by simp [hb])), h.nd⟩
theorem WsAt.alive {C CW p d m : Addr} {H : Hp} {n : Int} {G : Geo} {tt mvs : List (Str × Int)} (h : WsAt C CW H p d m n G tt mvs) : ∀ b ∈ p :: d :: m :: G.foot, H b ≠ none := by
 intro b hb
 rcases List.mem_cons.mp hb with rfl | hb
 . obtain ⟨dx, e⟩ := h.ex
   rw [e]; simp
 . rcases List.mem_cons.mp hb with rfl | hb
   . obtain ⟨kvs, e, _⟩ := h.dd
     rw [e]; simp
   . rcases List.mem_cons.mp hb with rfl | hb
     . obtain ⟨kvs, e, _⟩ := h.mm
       rw [e]; simp
     . exact h.g.alive b hb
theorem WsAt.foots {C CW p d m : Addr} {H : Hp} {n : Int} {G : Geo} {tt mvs : List (Str × Int)} (h : WsAt C CW H p d m n G tt mvs) : p ≠ d /\ p ≠ m /\ d ≠ m /\ p ∉ G.foot /\ d ∉ G.foot /\ m ∉ G.foot := by
 have hn := h.nd
 rw [List.nodup_cons, List.nodup_cons, List.nodup_cons] at hn
 obtain ⟨h1, h2, h3, _⟩ := hn
 refine ⟨fun z => h1 (by simp [z]), fun z => h1 (by simp [z]), fun z => h2 (by simp [z]), fun z => h1 (by simp [z]), fun z => h2 (by simp [z]), h3⟩
theorem WsAt.geo {C CW p d m : Addr} {H H' : Hp} {n : Int} {G G' : Geo} {tt mvs : List (Str × Int)} (h : WsAt C CW H p d m n G tt mvs) (mv : Mv G.foot H H') (hg : GAt CW H' G') (e1 : G'.q = G.q) (e2 : G'.f = G.f) (hs : ∀ b ∈ G'.foot, b ∈ G.foot \/ H b = none) : WsAt C CW H' p d m n G' tt mvs := by
 obtain ⟨f1, f2, f3, f4, f5, f6⟩ := h.foots
 have hal := h.alive
 have key : ∀ b ∈ [p, d, m], b ∉ G'.foot := fun b hb z => by
  rcases hs b z with r | r
  . have : b = p \/ b = d \/ b = m := by simpa using hb
    rcases this with rfl | rfl | rfl
    . exact f4 r
    . exact f5 r
    . exact f6 r
  . exact hal b (by have : b = p \/ b = d \/ b = m := by simpa using hb
                    rcases this with rfl | rfl | rfl <;> simp) r
 refine ⟨?_, h.dd.mv mv f5, h.mm.mv mv f6, hg, ?_⟩
 . obtain ⟨dx, e⟩ := h.ex
   exact ⟨dx, by rw [e1, e2]; exact mv.at f4 e⟩
 . rw [List.nodup_cons, List.nodup_cons, List.nodup_cons]
   refine ⟨fun z => ?_, fun z => ?_, key m (by simp), hg.nd⟩
   . rcases List.mem_cons.mp z with z | z
     . exact f1 z
     . rcases List.mem_cons.mp z with z | z
       . exact f2 z
       . exact key p (by simp) z
   . rcases List.mem_cons.mp z with z | z
     . exact f3 z
     . exact key d (by simp) z
theorem WsAt.setM {C CW p d m : Addr} {H H' : Hp} {n : Int} {G : Geo} {tt mvs mvs' : List (Str × Int)} (h : WsAt C CW H p d m n G tt mvs) (mv : Mv [m] H H') (hm : DAt H' m (tmD mvs')) : WsAt C CW H' p d m n G tt mvs' := by
 obtain ⟨f1, f2, f3, f4, f5, f6⟩ := h.foots
 exact ⟨let ⟨dx, e⟩ := h.ex; ⟨dx, mv.at (by simpa using f2) e⟩, h.dd.mv mv (by simpa using f3), hm, h.g.mv mv (fun b hb => by simpa using fun z : b = m => f6 (z ▸ hb)), h.nd⟩
theorem WsAt.setD {C CW p d m : Addr} {H H' : Hp} {n : Int} {G : Geo} {tt tt' mvs : List (Str × Int)} (h : WsAt C CW H p d m n G tt mvs) (mv : Mv [d] H H') (hm : DAt H' d (tmD tt')) : WsAt C CW H' p d m n G tt' mvs := by
 obtain ⟨f1, f2, f3, f4, f5, f6⟩ := h.foots
 exact ⟨let ⟨dx, e⟩ := h.ex; ⟨dx, mv.at (by simpa using f1) e⟩, hm, h.mm.mv mv (by simpa using Ne.symm f3), h.g.mv mv (fun b hb => by simpa using fun z : b = d => f5 (z ▸ hb)), h.nd⟩
theorem WsAt.ins {C CW p d m : Addr} {H : Hp} {n : Int} {G : Geo} {tt mvs : List (Str × Int)} (h : WsAt C CW H p d m n G tt mvs) : Ins H (.ref p) C [("now", .int n), ("times", .ref d), ("wheels", .ref G.q), ("far", .ref G.f), ("moves", .ref m)] := let ⟨dx, e⟩ := h.ex; ⟨p, dx, rfl, e⟩
def sp_enter (C CW : Addr) : Sp := fun vs H Q _ => ∃ (p d m : Addr) (n : Int) (G : Geo) (us : List (Int × Int)) (tt ts mvs : List (Str × Int)) (x : Str) (t : Int), vs = [.ref p, .str x, .int t] /\ WsAt C CW H p d m n G tt mvs /\ GI us n ts G /\ UsOk us /\ x ∉ ts.map (·.1) /\ x ∉ mvs.map (·.1) /\ ts.length <= 2000 /\ mvs.length <= 2000 /\
 ∀ H' G', Mv (m :: G.foot) H H' -> WsAt C CW H' p d m n G' tt (mvs ++ [(x, 0)]) -> GI us n (ts ++ [(x, t)]) G' -> (∀ b ∈ G'.foot, b ∈ G.foot \/ H b = none) -> Q .non H'
theorem ok_enter (T : Txt K mg a) : FnOk P w K mg base CX0 4 a.f_Wheels_enter a.fd_Wheels_enter ["self", "name", "time"] (sp_enter a.C_Wheels a.C_Wheel) := by
 have n1 := T.na_Wheels_moves; have n2 := T.na_Wheels_now; have cl := T.cl_Wheels
 have m_lie_down := T.m_Wheels_lie_down
 have c_lie_down := cal_lie (P := P) (w := w) (base := base) T
 refine T.F_Wheels_enter.ok sc_Wheels_enter (fun vs H Q E h => ?_) (fun cdv A outer s H vs Q E hr h => ?_)
 . obtain ⟨_, _, _, _, _, _, _, _, _, _, _, rfl, _⟩ := h; rfl
 . obtain ⟨p, d, m, n, G, us, tt, ts, mvs, x, t, rfl, hw, hgi, hok, hx, hxm, hl1, hl2, q⟩ := h
   have hi := hw.ins; have hm := hw.mm
   have hml := tmD_len mvs
   refine ⟨_, (pss_cut (ps_dput (hu_of hr) (pe_fld (pv 0) rfl) (pv 1) pe_int rfl)
    (pss_one (ps_expr (pn_meth (pv 0) cl m_lie_down c_lie_down (hr.mono (by decide)) (pa_cons (pv 1) (pa_cons (pv 2) (pa_cons (pe_fld (pv 0) rfl) pa_nil))))))), ?_⟩
   repeat' (walk_at "rd1")
   rename_i H1 mv1 hm1
   rw [putD_new (tm_none hxm), <- tmD_app] at hm1
   have hw1 := hw.setM mv1 hm1
   have hi1 := hw1.ins
   repeat' (walk_at "rd1")
   obtain ⟨dx, hp1⟩ := hw1.ex
   refine ⟨p, dx, d, m, n, G, us, ts, x, t, n, rfl, hp1, hw1.g, hgi, hok, hw1.foots.2.2.2.1, hx, hl1, fun H2 G' mv2 hg2 hgi2 e1 e2 hs => ?_⟩
   repeat' (walk_at "rd1")
   refine q H2 G' ((mv_sub mv1 fun b hb => by simp [List.mem_singleton.mp hb]).trans (mv_sub mv2 fun b hb => List.mem_cons_of_mem _ hb)) (hw1.geo mv2 hg2 e1 e2 hs) hgi2 fun b hb => ?_
   rcases hs b hb with r | r
   . exact .inl r
   . exact .inr (mv1.none r)
theorem cal_enter (T : Txt K mg a) : Cal P w K mg base 4 a.f_Wheels_enter ["self", "name", "time"] [] (sp_enter a.C_Wheels a.C_Wheel) :=
 ⟨⟨_, _, ok_enter T, T.F_Wheels_enter.binds fun _ _ _ _ _ _ => .all fun us hl => match us, hl with | [_, _, _], _ => rfl, .nil⟩⟩
theorem foot_set {G : Geo} {k : Nat} {w w' : Wh} (hw : G.ws[k]? = some w) (hs : ∀ b ∈ w'.foot, b ∈ w.foot) : ∀ b ∈ Geo.foot ⟨G.q, G.f, G.ws.set k w', G.far⟩, b ∈ G.foot := fun b hb => by
 unfold Geo.foot at hb
 rcases List.mem_cons.mp hb with rfl | hb
 . simp [Geo.foot]
 . rcases List.mem_cons.mp hb with rfl | hb
   . simp [Geo.foot]
   . obtain ⟨y, hy, hb2⟩ := List.mem_flatMap.mp hb
     have hy : y ∈ G.ws.set k w' := hy
     rcases List.mem_or_eq_of_mem_set hy with hy | hy
     . exact foot_w hy b hb2
     . exact foot_w (List.mem_of_getElem? hw) b (hs b (hy ▸ hb2))
theorem ok_init_Twice (T : Txt K mg a) : FnOk P w K mg base CX0 1 a.f_Twice___init__ a.fd_Twice___init__ ["self", "name"] (sp_initN K a.C_Twice) := by
 have hO := T.o_Twice
 refine T.F_Twice___init__.ok sc_Twice___init__ (fun vs H Q E h => ?_) (fun cdv A outer s H vs Q E hr h => ?_)
 . obtain ⟨_, _, rfl, _⟩ := h; rfl
 . obtain ⟨p, n, rfl, hn, hp, q⟩ := h
   refine ⟨_, (pss_cut (ps_expr (pe_excInit rfl T.mg_WakeError T.IB_WakeError (pa_cons (pv 0) (pa_cons (pe_fsR1 (pv 1) (by decide +kernel)) pa_nil))))
    (pss_one (ps_fldX (pv 0) (pv 1) rfl))), ?_⟩
   repeat' (walk_at "rd1")
   refine r_excInitP hp hO ?_
   repeat' (walk_at "rd1")
   exact ⟨p, _, _, _, rfl, hp, T.n_Twice, fun d h1 h2 => q d h1 h2⟩
theorem cal_init_Twice (T : Txt K mg a) : Cal P w K mg base 1 a.f_Twice___init__ ["self", "name"] [] (sp_initN K a.C_Twice) :=
 ⟨⟨_, _, ok_init_Twice T, T.F_Twice___init__.binds fun _ _ _ _ _ _ => .all fun us hl => match us, hl with | [_, _], _ => rfl, .nil⟩⟩
theorem ok_init_NoBell (T : Txt K mg a) : FnOk P w K mg base CX0 1 a.f_NoBell___init__ a.fd_NoBell___init__ ["self", "name"] (sp_initN K a.C_NoBell) := by
 have hO := T.o_NoBell
 refine T.F_NoBell___init__.ok sc_NoBell___init__ (fun vs H Q E h => ?_) (fun cdv A outer s H vs Q E hr h => ?_)
 . obtain ⟨_, _, rfl, _⟩ := h; rfl
 . obtain ⟨p, n, rfl, hn, hp, q⟩ := h
   refine ⟨_, (pss_cut (ps_expr (pe_excInit rfl T.mg_WakeError T.IB_WakeError (pa_cons (pv 0) (pa_cons (pe_fsR2 (pv 1) (by decide +kernel)) pa_nil))))
    (pss_one (ps_fldX (pv 0) (pv 1) rfl))), ?_⟩
   repeat' (walk_at "rd1")
   refine r_excInitP hp hO ?_
   repeat' (walk_at "rd1")
   exact ⟨p, _, _, _, rfl, hp, T.n_NoBell, fun d h1 h2 => q d h1 h2⟩
theorem cal_init_NoBell (T : Txt K mg a) : Cal P w K mg base 1 a.f_NoBell___init__ ["self", "name"] [] (sp_initN K a.C_NoBell) :=
 ⟨⟨_, _, ok_init_NoBell T, T.F_NoBell___init__.binds fun _ _ _ _ _ _ => .all fun us hl => match us, hl with | [_, _], _ => rfl, .nil⟩⟩
def Xn (H : Hp) (d : Addr) (x : Str) : Hp := upd H d (.xd [("name", .str x)])
structure Wss (C CW : Addr) (H : Hp) (p d m : Addr) (n : Int) (us : List (Int × Int)) (G : Geo) (ts mvs : List (Str × Int)) : Prop where
 ws : WsAt C CW H p d m n G ts mvs
 gi : GI us n ts G
 uo : UsOk us
 nd : (ts.map (·.1)).Nodup
 mnd : (mvs.map (·.1)).Nodup
 mem : ∀ x, x ∈ mvs.map (·.1) ↔ x ∈ ts.map (·.1)
theorem Wss.keeps {C CW p d m : Addr} {H H' : Hp} {n : Int} {us : List (Int × Int)} {G : Geo} {ts mvs : List (Str × Int)} (sm : Same H H') (h : Wss C CW H p d m n us G ts mvs) : Wss C CW H' p d m n us G ts mvs := ⟨h.ws.keeps sm, h.gi, h.uo, h.nd, h.mnd, h.mem⟩
theorem Wss.mv {C CW p d m : Addr} {S : List Addr} {H H' : Hp} {n : Int} {us : List (Int × Int)} {G : Geo} {ts mvs : List (Str × Int)} (mv : Mv S H H') (hn : ∀ b ∈ p :: d :: m :: G.foot, b ∉ S) (h : Wss C CW H p d m n us G ts mvs) : Wss C CW H' p d m n us G ts mvs := ⟨h.ws.mv mv hn, h.gi, h.uo, h.nd, h.mnd, h.mem⟩
theorem Wss.mlen {C CW p d m : Addr} {H : Hp} {n : Int} {us : List (Int × Int)} {G : Geo} {ts mvs : List (Str × Int)} (h : Wss C CW H p d m n us G ts mvs) : mvs.length <= ts.length := by
 have := nd_len (l' := ts.map (·.1)) h.mnd fun x hx => (h.mem x).mp hx
 simpa using this
def sp_put (C CW cT cP : Addr) : Sp := fun vs H Q E => ∃ (p d m : Addr) (n : Int) (us : List (Int × Int)) (G : Geo) (ts mvs : List (Str × Int)) (x : Str) (t : Int), vs = [.ref p, .str x, .int t] /\ Wss C CW H p d m n us G ts mvs /\ ts.length <= 1000 /\ NmT x /\
 (x ∈ ts.map (·.1) -> ∀ d', H d' = none -> E (.ref cT) (some d') (Xn H d' x)) /\ (x ∉ ts.map (·.1) -> t <= n -> E (.ref cP) none H) /\
 (x ∉ ts.map (·.1) -> n < t -> ∀ H' G', Mv (d :: m :: G.foot) H H' -> Wss C CW H' p d m n us G' (ts ++ [(x, t)]) (mvs ++ [(x, 0)]) -> (∀ b ∈ G'.foot, b ∈ G.foot \/ H b = none) -> Q .non H')
theorem nd_snoc {ts : List (Str × Int)} {x : Str} {t : Int} (h : (ts.map (·.1)).Nodup) (hx : x ∉ ts.map (·.1)) : ((ts ++ [(x, t)]).map (·.1)).Nodup := by
 rw [List.map_append, List.nodup_append]
 refine ⟨h, by simp, fun a ha b hb => ?_⟩
 have hb : b = x := by simpa using hb
 rw [hb]; exact fun z => hx (z ▸ ha)
theorem ok_put (T : Txt K mg a) : FnOk P w K mg base (CXD P w) 6 a.f_Waits_put a.fd_Waits_put ["self", "name", "time"] (sp_put a.C_Wheels a.C_Wheel a.C_Twice a.C_Past) := by
 have n1 := T.na_Wheels_now; have n2 := T.na_Wheels_times; have cl := T.cl_Wheels
 have m_enter := T.m_Wheels_enter
 have c_enter := cal_enter (P := P) (w := w) (base := base) T
 have c_init_Twice := cal_init_Twice (P := P) (w := w) (base := base) T
 refine T.F_Waits_put.okD sc_Waits_put (fun vs H Q E h => ?_) (fun cdv A outer s H vs Q E hr h => ?_)
 . obtain ⟨_, _, _, _, _, _, _, _, _, _, rfl, _⟩ := h; rfl
 . obtain ⟨p, d, m, n, us, G, ts, mvs, x, t, rfl, hw, hl, hx, qT, qP, q⟩ := h
   have hi := hw.ws.ins; have hd := hw.ws.dd
   have hml := tmD_len ts
   refine ⟨_, (pss_cut (ps_if (pt_cmp (pc_din (hu_of hr) (pv 1) (pe_fld (pv 0) rfl)) rfl)
    (pss_one (ps_raiseN raiseD rfl (pa_cons (pv 1) pa_nil) rfl T.mg_Twice T.n_Twice (hr.mono (by decide)) c_init_Twice rfl))
    pss_nil)
    (pss_cut (ps_if (pt_cmpR op_le (pv 2) (pe_fld (pv 0) rfl) (nomark _))
     (pss_one (ps_raiseP raiseD rfl (pa_cons pe_str pa_nil) rfl T.mg_Past T.x_Past rfl))
     pss_nil)
    (pss_cut (ps_dput (hu_of hr) (pe_fld (pv 0) rfl) (pv 1) (pv 2) rfl)
    (pss_one (ps_expr (pn_meth (pv 0) cl m_enter c_enter (hr.mono (by decide)) (pa_cons (pv 1) (pa_cons (pv 2) pa_nil)))))))), ?_⟩
   repeat' (walk_at "rd1")
   . rename_i o e hb
     refine r_raisedN hx (fun d' hd' => ?_)
     rw [e] at hb
     exact qT (tm_isSome.mp hb) d' hd'
   . rename_i o e hb1 hb2
     rw [e] at hb1
     exact qP (fun z => by rw [tm_isSome.mpr z] at hb1; cases hb1) hb2
   . rename_i o e hb1 hb2 H2 mv2 hd2
     have hxn : x ∉ ts.map (·.1) := fun z => by rw [e, tm_isSome.mpr z] at hb1; cases hb1
     rw [putD_new (tm_none hxn), <- tmD_app] at hd2
     have hw2 := hw.ws.setD mv2 hd2
     have hi2 := hw2.ins
     have hmn := hw.mlen
     repeat' (walk_at "rd1")
     have hxm : x ∉ mvs.map (·.1) := fun z => hxn ((hw.mem x).mp z)
     refine ⟨p, d, m, n, G, us, ts ++ [(x, t)], ts, mvs, x, t, rfl, hw2, hw.gi, hw.uo, hxn, hxm, by omega, by omega, fun H3 G' mv3 hw3 hgi3 hs => ?_⟩
     repeat' (walk_at "rd1")
     refine q hxn (by omega) H3 G' ((mv_sub mv2 fun b hb => by simp [List.mem_singleton.mp hb]).trans (mv_sub mv3 fun b hb => List.mem_cons_of_mem _ hb)) ⟨hw3, hgi3, hw.uo, nd_snoc hw.nd hxn, nd_snoc hw.mnd hxm, fun y => ?_⟩ fun b hb => ?_
     . rw [List.map_append, List.map_append, List.mem_append, List.mem_append, hw.mem y]; rfl
     . rcases hs b hb with r | r
       . exact .inl r
       . exact .inr (mv2.none r)
theorem cal_put (T : Txt K mg a) : CalD P w K mg base 6 a.f_Waits_put ["self", "name", "time"] [] (sp_put a.C_Wheels a.C_Wheel a.C_Twice a.C_Past) :=
 ⟨⟨_, _, ok_put T, T.F_Waits_put.binds fun _ _ _ _ _ _ => .all fun us hl => match us, hl with | [_, _, _], _ => rfl, .nil⟩⟩
def sp_checkw (C CW cN : Addr) : Sp := fun vs H Q E => ∃ (p d m : Addr) (n : Int) (G : Geo) (ts mvs : List (Str × Int)) (x : Str), vs = [.ref p, .str x] /\ WsAt C CW H p d m n G ts mvs /\ NmT x /\ (x ∉ ts.map (·.1) -> ∀ d', H d' = none -> E (.ref cN) (some d') (Xn H d' x)) /\ (x ∈ ts.map (·.1) -> Q .non H)
theorem ok_checkw (T : Txt K mg a) : FnOk P w K mg base (CXD P w) 3 a.f_Waits_check_waits a.fd_Waits_check_waits ["self", "name"] (sp_checkw a.C_Wheels a.C_Wheel a.C_NoBell) := by
 have n1 := T.na_Wheels_now; have n2 := T.na_Wheels_times; have cl := T.cl_Wheels
 have c_init_NoBell := cal_init_NoBell (P := P) (w := w) (base := base) T
 refine T.F_Waits_check_waits.okD sc_Waits_check_waits (fun vs H Q E h => ?_) (fun cdv A outer s H vs Q E hr h => ?_)
 . obtain ⟨_, _, _, _, _, _, _, _, rfl, _⟩ := h; rfl
 . obtain ⟨p, d, m, n, G, ts, mvs, x, rfl, hw, hx, qN, q⟩ := h
   have hi := hw.ins; have hd := hw.dd
   refine ⟨_, (pss_one (ps_if (pt_cmp (pc_dnotin (hu_of hr) (pv 1) (pe_fld (pv 0) rfl)) rfl)
    (pss_one (ps_raiseN raiseD rfl (pa_cons (pv 1) pa_nil) rfl T.mg_NoBell T.n_NoBell (hr.mono (by decide)) c_init_NoBell rfl))
    pss_nil)), ?_⟩
   repeat' (walk_at "rd1")
   . rename_i o e hb
     refine r_raisedN hx (fun d' hd' => ?_)
     rw [e] at hb
     exact qN (fun z => by rw [tm_isSome.mpr z] at hb; cases hb) d' hd'
   . rename_i o e hb
     rw [e] at hb
     exact q (tm_isSome.mp hb)
theorem cal_checkw (T : Txt K mg a) : CalD P w K mg base 3 a.f_Waits_check_waits ["self", "name"] [] (sp_checkw a.C_Wheels a.C_Wheel a.C_NoBell) :=
 ⟨⟨_, _, ok_checkw T, T.F_Waits_check_waits.binds fun _ _ _ _ _ _ => .all fun us hl => match us, hl with | [_, _], _ => rfl, .nil⟩⟩
theorem dropT_nd {ts : List (Str × Int)} {x : Str} (h : (ts.map (·.1)).Nodup) : ((dropT ts x).map (·.1)).Nodup := h.sublist (List.filter_sublist.map _)
def sp_wheelof (C CW cN : Addr) : Sp := fun vs H Q E => ∃ (p d m : Addr) (n : Int) (us : List (Int × Int)) (G : Geo) (ts mvs : List (Str × Int)) (x : Str), vs = [.ref p, .str x] /\ Wss C CW H p d m n us G ts mvs /\ NmT x /\ (x ∉ ts.map (·.1) -> ∀ d', H d' = none -> E (.ref cN) (some d') (Xn H d' x)) /\
 (∀ t, (x, t) ∈ ts -> ∀ H', Same H H' -> Q (.int (wAt us t n : Nat)) H')
theorem ok_wheelof (T : Txt K mg a) : FnOk P w K mg base (CXD P w) 5 a.f_Wheels_wheel_of a.fd_Wheels_wheel_of ["self", "name"] (sp_wheelof a.C_Wheels a.C_Wheel a.C_NoBell) := by
 have n1 := T.na_Wheels_now; have n2 := T.na_Wheels_times; have cl := T.cl_Wheels
 have m_wheel_at := T.m_Wheels_wheel_at; have m_check_waits := T.m_Wheels_check_waits
 have c_wheel_at := cal_wheelat (P := P) (w := w) (base := base) T
 have c_check_waits := cal_checkw (P := P) (w := w) (base := base) T
 refine T.F_Wheels_wheel_of.okD sc_Wheels_wheel_of (fun vs H Q E h => ?_) (fun cdv A outer s H vs Q E hr h => ?_)
 . obtain ⟨_, _, _, _, _, _, _, _, _, rfl, _⟩ := h; rfl
 . obtain ⟨p, d, m, n, us, G, ts, mvs, x, rfl, hw, hx, qN, q⟩ := h
   have hi := hw.ws.ins; have hd := hw.ws.dd
   refine ⟨_, (pss_cut (ps_expr (pd_meth (pv 0) cl m_check_waits c_check_waits (hr.mono (by decide)) passD (pa_cons (pv 1) pa_nil)))
    (pss_one (ps_ret (pn_meth (pv 0) cl m_wheel_at c_wheel_at (hr.mono (by decide)) (pa_cons (pe_dget (hu_of hr) (pe_fld (pv 0) rfl) (pv 1) (fun _ _ => rfl)) (pa_cons (pe_fld (pv 0) rfl) pa_nil)))))), ?_⟩
   repeat' (walk_at "rd1")
   refine ⟨p, d, m, n, G, ts, mvs, x, rfl, hw.ws, hx, qN, fun hin => ?_⟩
   obtain ⟨⟨_, t⟩, hxt, rfl⟩ := List.mem_map.mp hin
   have hlk := tm_lkp hw.nd hxt
   repeat' (walk_at "rd1")
   obtain ⟨dx, hp⟩ := hw.ws.ex
   refine ⟨p, dx, d, m, n, G, us, t, n, rfl, hp, hw.ws.g, hw.gi.eu, hw.uo, fun H1 sm1 => ?_⟩
   exact q t hxt H1 sm1
theorem cal_wheelof (T : Txt K mg a) : CalD P w K mg base 5 a.f_Wheels_wheel_of ["self", "name"] [] (sp_wheelof a.C_Wheels a.C_Wheel a.C_NoBell) :=
 ⟨⟨_, _, ok_wheelof T, T.F_Wheels_wheel_of.binds fun _ _ _ _ _ _ => .all fun us hl => match us, hl with | [_, _], _ => rfl, .nil⟩⟩
def unitsOf : Int -> List Int -> List (Int × Int)
 | _, [] => []
 | u, r :: rs => (u, r) :: unitsOf (u * r) rs
def prodOf (u : Int) (rs : List Int) : Int := rs.foldl (· * ·) u
theorem unitsOf_snoc (r : Int) : ∀ (u : Int) (rs : List Int), unitsOf u (rs ++ [r]) = unitsOf u rs ++ [(prodOf u rs, r)]
 | u, [] => rfl
 | u, q :: rs => by rw [List.cons_append, unitsOf, unitsOf, unitsOf_snoc r (u * q) rs]; rfl
theorem prodOf_snoc (u r : Int) (rs : List Int) : prodOf u (rs ++ [r]) = prodOf u rs * r := by unfold prodOf; rw [List.foldl_append]; rfl
theorem unitsOf_len : ∀ (u : Int) (rs : List Int), (unitsOf u rs).length = rs.length
 | _, [] => rfl
 | u, r :: rs => by rw [unitsOf, List.length_cons, List.length_cons, unitsOf_len]
theorem prod_bnd : ∀ (rs : List Int) (u : Int), 0 < u -> (∀ r ∈ rs, 2 <= r /\ r <= 60) -> 0 < prodOf u rs /\ prodOf u rs <= u * 60 ^ rs.length
 | [], u, h, _ => ⟨h, by simp [prodOf]⟩
 | r :: rs, u, h, hr => by
   have hr1 := hr r List.mem_cons_self
   have hp : 0 < u * r := Int.mul_pos h (by omega)
   obtain ⟨h1, h2⟩ := prod_bnd rs (u * r) hp fun x hx => hr x (List.mem_cons_of_mem _ hx)
   refine ⟨h1, Int.le_trans h2 ?_⟩
   rw [List.length_cons, Int.pow_succ]
   have : (0 : Int) < 60 ^ rs.length := Int.pow_pos (by decide)
   have e : u * (60 ^ rs.length * 60) = u * 60 * 60 ^ rs.length := by rw [Int.mul_assoc, Int.mul_comm (60 ^ rs.length) 60]
   rw [e]
   exact Int.mul_le_mul_of_nonneg_right (Int.mul_le_mul_of_nonneg_left hr1.2 (Int.le_of_lt h)) (Int.le_of_lt this)
theorem pow60 {j : Nat} (h : j <= 6) : (60 : Int) ^ j <= 10 ^ 12 := by
 match j, h with
 | 0, _ => exact (by decide)
 | 1, _ => exact (by decide)
 | 2, _ => exact (by decide)
 | 3, _ => exact (by decide)
 | 4, _ => exact (by decide)
 | 5, _ => exact (by decide)
 | 6, _ => exact (by decide)
theorem unitsOf_at : ∀ (rs : List Int) (u : Int) (k : Nat) (q : Int × Int), (unitsOf u rs)[k]? = some q -> q.1 = prodOf u (rs.take k) /\ rs[k]? = some q.2
 | [], _, k, q, h => by simp [unitsOf] at h
 | r :: rs, u, 0, q, h => by
   have : (u, r) = q := by simpa [unitsOf] using h
   subst this
   exact ⟨rfl, rfl⟩
 | r :: rs, u, k + 1, q, h => by
   have h : (unitsOf (u * r) rs)[k]? = some q := by simpa [unitsOf] using h
   obtain ⟨h1, h2⟩ := unitsOf_at rs (u * r) k q h
   exact ⟨h1, by simpa using h2⟩
theorem unitsOf_ok {rs : List Int} (hl : rs.length <= 6) (hr : ∀ r ∈ rs, 2 <= r /\ r <= 60) : UsOk (unitsOf 1 rs) := by
 intro q hq
 obtain ⟨k, hk⟩ := List.getElem?_of_mem hq
 obtain ⟨h1, h2⟩ := unitsOf_at rs 1 k q hk
 obtain ⟨p1, p2⟩ := prod_bnd (rs.take k) 1 (by decide) fun r hr' => hr r (List.mem_of_mem_take hr')
 have hr2 := hr q.2 (List.mem_of_getElem? h2)
 have hlt : (rs.take k).length <= 6 := by rw [List.length_take]; omega
 have := pow60 hlt
 rw [h1]
 exact ⟨p1, by omega, hr2.1, hr2.2⟩
theorem r_tyLV {H : Hp} {p : Addr} {xs : List V} {R : Prop} (e : H p = some (.lst xs)) (h : R) : tyV K "list" (.ref p) H /\ R := ⟨.inl ⟨rfl, xs, .of e⟩, h⟩
theorem good_ints : ∀ {ds : List PyData}, ds.all rnd = true -> ∃ rs : List Int, ds = rs.map PyData.int /\ ∀ r ∈ rs, 2 <= r /\ r <= 60
 | [], _ => ⟨[], rfl, fun r h => by cases h⟩
 | d :: ds, h => by
   rw [List.all_cons, Bool.and_eq_true] at h
   obtain ⟨rs, rfl, hrs⟩ := good_ints h.2
   cases d with
   | int i =>
     have h1 : (decide (2 <= i) && decide (i <= 60)) = true := h.1
     rw [Bool.and_eq_true, decide_eq_true_eq, decide_eq_true_eq] at h1
     refine ⟨i :: rs, rfl, fun r hr => ?_⟩
     rcases List.mem_cons.mp hr with rfl | hr
     . exact h1
     . exact hrs r hr
   | _ => cases h.1
def Empt (CW : Addr) (H : Hp) (ws : List Wh) : Prop := ∀ y ∈ ws, WhAt CW H y /\ y.cs = [] /\ y.m = 0
def sp_wheelsof (CW : Addr) : Sp := fun vs H Q _ => ∃ (l : Addr) (rs : List Int), vs = [.ref l] /\ LAt H l (rs.map PyData.int) /\ rs.length <= 6 /\ (∀ r ∈ rs, 2 <= r /\ r <= 60) /\
 ∀ q H' (ws : List Wh), Same H H' -> H q = none -> H' q = some (.lst (ws.map fun y => V.ref y.x)) -> ws.map (fun y => (y.u, y.s)) = unitsOf 1 rs -> Empt CW H' ws -> (q :: ws.flatMap Wh.foot).Nodup -> (∀ b ∈ ws.flatMap Wh.foot, H b = none) -> Q (.ref q) H'
theorem ok_wheelsof (T : Txt K mg a) : FnOk P w K mg base CX0 3 a.f_wheels_of a.fd_wheels_of ["rounds"] (sp_wheelsof a.C_Wheel) := by
 have c_Wheel_2 := cal_Wheel_2 (P := P) (w := w) (base := base) T
 refine T.F_wheels_of.ok sc_wheels_of (fun vs H Q E h => ?_) (fun cdv A outer s H vs Q E hr h => ?_)
 . obtain ⟨_, _, rfl, _⟩ := h; rfl
 . obtain ⟨l, rs, rfl, hl, hlen, hrs, q⟩ := h
   refine ⟨_, (pss_cut (ps_set (i := 1) sc_wheels_of.nd rfl (Or.inl rfl) (pe_lstD pa_nil))
    (pss_cut (ps_set (i := 2) sc_wheels_of.nd rfl (Or.inl rfl) pe_int)
    (pss_cut (ps_for PassesOwn.never rfl (pi_list (pv 0)) (pg_name (i := 3) sc_wheels_of.nd rfl (Or.inl rfl))
     (pss_cut (ps_expr (pe_bm PySem.F.plainAttrs_list PySem.F.slot_list_append PySem.F.type_list_append mt_append (pv 1) (pa_cons (pn_make T.M_Wheel c_Wheel_2 (hr.mono (by decide)) rfl T.mg_Wheel (pa_cons (pv 2) (pa_cons (pv 3) pa_nil))) pa_nil)))
     (pss_one (ps_set (i := 2) sc_wheels_of.nd rfl (Or.inl rfl) (pe_op op_mulB (pv 2) (pv 3))))))
    (pss_one (ps_ret (pv 1)))))), ?_⟩
   repeat' (walk_at "rd1")
   rename_i ql H1 sm1 hn1 hq1
   have hl1 := hl.keeps sm1
   have hlq : l ≠ ql := hl.ne hn1
   refine forDB (Hb := H1) (cs := rs) (gd := PyData.int) hl1.dv (fun j σ' H' => Mv [ql] H1 H' /\ ∃ (ws : List Wh) (z : Option V), σ' = [some (.ref l), some (.ref ql), some (.int (prodOf 1 (rs.take j))), z] /\ H' ql = some (.lst (ws.map fun y => V.ref y.x)) /\ ws.map (fun y => (y.u, y.s)) = unitsOf 1 (rs.take j) /\ Empt a.C_Wheel H' ws /\ (ql :: ws.flatMap Wh.foot).Nodup /\ ∀ b ∈ ws.flatMap Wh.foot, H1 b = none) ⟨Mv.refl, [], _, rfl, (by obtain ⟨xs, e, dv, _⟩ := hq1; cases dv; exact e), rfl, (fun x hx => nomatch hx), (by simp), (fun b hb => nomatch hb)⟩ (fun i σ' H' _ ⟨mv, _⟩ a' xs e hx => by cases e; exact mv.sq (by simpa using hlq) hx) ?_ ?_
   . rintro j r x σ' H' hj ⟨mv, ws, z, rfl, hq, hus, hok, hnd, hfr⟩ hdx _
     obtain rfl := (hdx rfl mv.tp).int_inv
     have hr2 := hrs r (List.mem_of_getElem? hj)
     have hj6 : j < 6 := by have := (List.getElem?_eq_some_iff.mp hj).1; omega
     have htl : (rs.take j).length <= 6 := by rw [List.length_take]; omega
     obtain ⟨hu0, hu1⟩ := prod_bnd (rs.take j) 1 (by decide) fun r hr' => hrs r (List.mem_of_mem_take hr')
     have hu2 : prodOf 1 (rs.take j) <= 10 ^ 12 := by have := pow60 htl; omega
     have htk : rs.take (j + 1) = rs.take j ++ [r] := by rw [List.take_add_one, hj]; rfl
     have hwl : ws.length <= 6 := by
      have := congrArg List.length hus
      rw [List.length_map, unitsOf_len] at this
      omega
     rw [htk, prodOf_snoc, unitsOf_snoc]
     generalize prodOf 1 (rs.take j) = u at *
     repeat' (walk_at "rd1")
     refine r_tyLV hq ?_
     repeat' (walk_at "rd1")
     refine u_whmake hu0 hu2 (by omega) hr2.2 (fun x dn H3 sm3 hx3 hd3 hw3 => ?_)
     have hq3 := sm3 _ _ hq
     repeat' (walk_at "rd1")
     refine r_appV hq3 (by rw [List.length_map]; omega) ?_
     have mv4 : Mv [ql] H3 (upd H3 ql (.lst (ws.map (fun y => V.ref y.x) ++ [.ref x]))) := .of_upd hq3 (by intro _ z; cases z)
     have hxq : x ≠ ql := fun z => by rw [z, hq] at hx3; cases hx3
     have hdq : dn ≠ ql := fun z => by rw [z, hq] at hd3; cases hd3
     have hq4 : upd H3 ql (.lst (ws.map (fun y => V.ref y.x) ++ [.ref x])) ql = some (.lst ((ws ++ [(⟨x, dn, u, r, 0, []⟩ : Wh)]).map fun y => V.ref y.x)) := by rw [upd_same, List.map_append]; rfl
     generalize upd H3 ql (.lst (ws.map (fun y => V.ref y.x) ++ [.ref x])) = H4 at *
     repeat' (walk_at "rd1")
     have hwf : Wh.foot ⟨x, dn, u, r, 0, []⟩ = [x, dn] := rfl
     have hxd : x ≠ dn := fun z => by
      obtain ⟨dx, e⟩ := hw3.i
      have e2 := hw3.d
      have e : H3 x = some _ := e
      have e2 : H3 dn = some _ := e2
      rw [z, e2] at e
      cases e
     have hal : ∀ b ∈ ql :: ws.flatMap Wh.foot, H' b ≠ none := fun b hb => by
      rcases List.mem_cons.mp hb with rfl | hb
      . rw [hq]; simp
      . obtain ⟨y, hy, hb⟩ := List.mem_flatMap.mp hb
        exact (hok y hy).1.alive b hb
     refine ⟨(mv.stepS sm3).trans mv4, ws ++ [⟨x, dn, u, r, 0, []⟩], _, rfl, hq4, by rw [List.map_append, hus]; rfl, fun y hy => ?_, ?_, fun b hb => ?_⟩
     . rcases List.mem_append.mp hy with hy | hy
       . obtain ⟨h1, h2⟩ := hok y hy
         refine ⟨(h1.keeps sm3).mv mv4 fun b hb => ?_, h2⟩
         have := (List.nodup_cons.mp hnd).1
         simpa using fun z : b = ql => this (z ▸ List.mem_flatMap.mpr ⟨y, hy, hb⟩)
       . have hy : y = ⟨x, dn, u, r, 0, []⟩ := by simpa using hy
         subst hy
         refine ⟨hw3.mv mv4 fun b hb => ?_, rfl, rfl⟩
         rw [hwf] at hb
         have : b = x \/ b = dn := by simpa using hb
         rcases this with rfl | rfl
         . simpa using hxq
         . simpa using hdq
     . rw [List.flatMap_append, <- List.cons_append, List.nodup_append]
       refine ⟨hnd, by simp [hwf, hxd], fun b hb b' hb' => ?_⟩
       have : b' = x \/ b' = dn := by simpa [hwf] using hb'
       rcases this with rfl | rfl
       . exact fun z => hal b hb (z ▸ hx3)
       . exact fun z => hal b hb (z ▸ hd3)
     . rw [List.flatMap_append] at hb
       rcases List.mem_append.mp hb with hb | hb
       . exact hfr b hb
       . have : b = x \/ b = dn := by simpa [hwf] using hb
         rcases this with rfl | rfl
         . exact mv.none hx3
         . exact mv.none hd3
   . rintro σ' H' ⟨mv, ws, z, rfl, hq, hus, hok, hnd, hfr⟩
     rw [List.take_length] at hus
     repeat' (walk_at "rd1")
     exact q ql H' ws (Mv.sameN sm1 mv hn1) hn1 hq hus hok hnd fun b hb => sm1.none (hfr b hb)
theorem cal_wheelsof (T : Txt K mg a) : Cal P w K mg base 3 a.f_wheels_of ["rounds"] [] (sp_wheelsof a.C_Wheel) :=
 ⟨⟨_, _, ok_wheelsof T, T.F_wheels_of.binds fun _ _ _ _ _ _ => .all fun us hl => match us, hl with | [_], _ => rfl, .nil⟩⟩
def sp_winit (C : Addr) : Sp := fun vs H Q _ => ∃ p dx n, vs = [.ref p, .int n] /\ H p = some (.ins C dx []) /\ ∀ H' d, Mv [p] H H' -> H d = none -> DAt H' d [] -> H' p = some (.ins C dx [("now", .int n), ("times", .ref d)]) -> Q .non H'
theorem ok_winit (T : Txt K mg a) : FnOk P w K mg base CX0 1 a.f_Waits___init__ a.fd_Waits___init__ ["self", "now"] (sp_winit a.C_Wheels) := by
 have n1 := T.na_Wheels_now; have n2 := T.na_Wheels_times; have cl := T.cl_Wheels
 refine T.F_Waits___init__.ok sc_Waits___init__ (fun vs H Q E h => ?_) (fun cdv A outer s H vs Q E hr h => ?_)
 . obtain ⟨_, _, _, rfl, _⟩ := h; rfl
 . obtain ⟨p, dx, n, rfl, hp, q⟩ := h
   refine ⟨_, (pss_cut (ps_fld (pv 0) (pv 1) rfl)
    (pss_one (ps_fld (pv 0) pe_dnewK rfl))), ?_⟩
   repeat' (walk_at "rd1")
   rename_i d H2 sm2 hn2 hd2
   have mv1 : Mv [p] H (upd H p (.ins a.C_Wheels dx [("now", .int n)])) := .of_upd hp (by intro _ z; cases z)
   have e2 := sm2 p _ upd_same
   have mv2 : Mv [p] H2 (upd H2 p (.ins a.C_Wheels dx [("now", .int n), ("times", .ref d)])) := .of_upd e2 (by intro _ z; cases z)
   have hn : H d = none := mv1.none hn2
   have hpd : d ≠ p := Ne.symm (ne_of_none hp hn)
   exact q _ d (mv1.trans ((sm2.mv (S := [p])).trans mv2)) hn (hd2.mv mv2 (by simpa using hpd)) upd_same
theorem cal_winit (T : Txt K mg a) : Cal P w K mg base 1 a.f_Waits___init__ ["self", "now"] [] (sp_winit a.C_Wheels) :=
 ⟨⟨_, _, ok_winit T, T.F_Waits___init__.binds fun _ _ _ _ _ _ s us kx hl => by
   obtain ⟨o, n, h1, h2⟩ := T.D_Waits___init__.ex
   have hl : us.length = 2 := by simp at hl; omega
   match us, hl with
   | [_, _], _ => exact PySem.W.binds_K kx rfl h1 h2 rfl rfl, .nil⟩⟩
theorem gi_nil {us : List (Int × Int)} {n : Int} {q f : Addr} {ws : List Wh} {CW : Addr} {H : Hp} (hus : ws.map (fun y => (y.u, y.s)) = us) (he : Empt CW H ws) : GI us n [] ⟨q, f, ws, []⟩ := by
 refine ⟨hus, fun k y hy => ?_, fun c => ⟨(fun h => nomatch h), (fun h => nomatch h.1)⟩, .nil⟩
 have hc := (he y (List.mem_of_getElem? hy)).2.1
 have hm := (he y (List.mem_of_getElem? hy)).2.2
 refine ⟨⟨by rw [hm]; decide, fun i => by rw [hm, hc]; simp⟩, by rw [hc]; exact .nil, (fun c h => by rw [hc] at h; exact nomatch h), fun x j => ⟨(fun ⟨c, h, _⟩ => by rw [hc] at h; exact nomatch h), (fun ⟨t, h, _⟩ => nomatch h)⟩⟩
def sp_wsinit (C CW cN : Addr) : Sp := fun vs H Q E => ∃ p dx l ds n, vs = [.ref p, .ref l, .int n] /\ H p = some (.ins C dx []) /\ LAt H l ds /\ ds.length <= 60 /\ ds.all scD = true /\ (¬ good ds -> E (.ref cN) none H) /\
 (∀ rs : List Int, ds = rs.map PyData.int -> rs.length <= 6 -> 1 <= rs.length -> (∀ r ∈ rs, 2 <= r /\ r <= 60) -> ∀ H' d m G, Mv [p] H H' -> (∀ b ∈ d :: m :: G.foot, H b = none) -> Wss C CW H' p d m n (unitsOf 1 rs) G [] [] -> Q .non H')
theorem ok_wsinit (T : Txt K mg a) : FnOk P w K mg base (CXD P w) 5 a.f_Wheels___init__ a.fd_Wheels___init__ ["self", "rounds", "now"] (sp_wsinit a.C_Wheels a.C_Wheel a.C_NoRounds) := by
 have n1 := T.na_Wheels_now; have n2 := T.na_Wheels_times; have n3 := T.na_Wheels_wheels; have n4 := T.na_Wheels_far; have n5 := T.na_Wheels_moves; have cl := T.cl_Wheels
 have c_check_rounds := cal_check (P := P) (w := w) (base := base) T
 have c_Waits___init__ := cal_winit (P := P) (w := w) (base := base) T
 have c_wheels_of := cal_wheelsof (P := P) (w := w) (base := base) T
 refine T.F_Wheels___init__.okD sc_Wheels___init__ (fun vs H Q E h => ?_) (fun cdv A outer s H vs Q E hr h => ?_)
 . obtain ⟨_, _, _, _, _, rfl, _⟩ := h; rfl
 . obtain ⟨p, dx, l, ds, n, rfl, hp, hl, hlen, hsc, qE, q⟩ := h
   refine ⟨_, (pss_cut (ps_expr (pd_call c_check_rounds (hr.mono (by decide)) rfl T.mg_check_rounds T.kp_check_rounds passD (pa_cons (pv 1) pa_nil)))
    (pss_cut (ps_expr (pn_base rfl T.mg_Waits T.B_Waits___init__ c_Waits___init__ (hr.mono (by decide)) (pa_cons (pv 0) (pa_cons (pv 2) pa_nil))))
    (pss_cut (ps_fld (pv 0) (pn_call c_wheels_of (hr.mono (by decide)) rfl T.mg_wheels_of T.kp_wheels_of (pa_cons (pv 1) pa_nil)) rfl)
    (pss_cut (ps_fld (pv 0) (pe_lstD pa_nil) rfl)
    (pss_one (ps_fld (pv 0) pe_dnewK rfl)))))), ?_⟩
   repeat' (walk_at "rd1")
   refine ⟨l, ds, rfl, hl, hlen, hsc, fun g => ?_, qE⟩
   obtain ⟨rs, rfl, hrs⟩ : ∃ rs : List Int, ds = rs.map PyData.int /\ ∀ r ∈ rs, 2 <= r /\ r <= 60 := good_ints g.2.2
   have hr6 : rs.length <= 6 := by have := g.2.1; rw [List.length_map] at this; exact this
   have hr1 : 1 <= rs.length := by have := g.1; rw [List.length_map] at this; exact this
   replace q := q rs rfl hr6 hr1 hrs
   repeat' (walk_at "rd1")
   refine ⟨p, dx, n, rfl, hp, fun H1 d mv1 hd1 hdd1 hp1 => ?_⟩
   have hlp : l ≠ p := by obtain ⟨xs, e, _⟩ := hl; exact ne_of e hp (by intro y; cases y)
   have hl1 : LAt H1 l (rs.map PyData.int) := hl.mv mv1 (by simpa using hlp)
   repeat' (walk_at "rd1")
   refine ⟨l, rs, rfl, hl1, hr6, hrs, fun q3 H3 ws sm3 hn3 hq3 hus hok hnd hfr => ?_⟩
   have hp3 := sm3 _ _ hp1
   repeat' (walk_at "rd1")
   rename_i f H4 sm4 hn4 hf4 m H5 sm5 hn5 hm5
   have mvA : Mv [p] H3 (upd H3 p (.ins a.C_Wheels dx [("now", .int n), ("times", .ref d), ("wheels", .ref q3)])) := .of_upd hp3 (by intro _ z; cases z)
   have e4 := sm4 p _ upd_same
   have mvB : Mv [p] H4 (upd H4 p (.ins a.C_Wheels dx [("now", .int n), ("times", .ref d), ("wheels", .ref q3), ("far", .ref f)])) := .of_upd e4 (by intro _ z; cases z)
   have e5 := sm5 p _ upd_same
   have mvC : Mv [p] H5 (upd H5 p (.ins a.C_Wheels dx [("now", .int n), ("times", .ref d), ("wheels", .ref q3), ("far", .ref f), ("moves", .ref m)])) := .of_upd e5 (by intro _ z; cases z)
   have mvR := mvA.trans ((sm4.mv (S := [p])).trans (mvB.trans ((sm5.mv (S := [p])).trans mvC)))
   have mvH3 : Mv [p] H H3 := mv1.stepS sm3
   have mvH4 : Mv [p] H H4 := mvH3.trans (mvA.stepS sm4)
   have hfn : H3 f = none := mvA.none hn4
   have hmn : H4 m = none := mvB.none hn5
   have fH : H f = none := mvH3.none hfn
   have mH : H m = none := mvH4.none hmn
   have qH : H q3 = none := mv1.none hn3
   have dH1 : H1 d ≠ none := by obtain ⟨kvs, e, _⟩ := hdd1; rw [e]; simp
   have dH3 : H3 d ≠ none := by obtain ⟨kvs, e, _⟩ := hdd1.keeps sm3; rw [e]; simp
   have wH1 : ∀ b ∈ ws.flatMap Wh.foot, H1 b = none := hfr
   have wH : ∀ b ∈ ws.flatMap Wh.foot, H b = none := fun b hb => mv1.none (hfr b hb)
   have wH3 : ∀ b ∈ ws.flatMap Wh.foot, H3 b ≠ none := fun b hb => by
    obtain ⟨y, hy, hb⟩ := List.mem_flatMap.mp hb
    exact (hok y hy).1.alive b hb
   have qH3 : H3 q3 ≠ none := by rw [hq3]; simp
   have up4 : ∀ b, H3 b ≠ none -> H4 b ≠ none := fun b hb z => hb ((mvA.stepS sm4).none z)
   have f4 : H4 f ≠ none := by obtain ⟨xs, e, _⟩ := hf4; rw [e]; simp
   have pne : ∀ b, H b = none -> b ≠ p := fun b hb z => by rw [z, hp] at hb; cases hb
   have hnd2 : (p :: d :: m :: Geo.foot ⟨q3, f, ws, []⟩).Nodup := by
    show (p :: d :: m :: q3 :: f :: ws.flatMap Wh.foot).Nodup
    simp only [List.nodup_cons, List.mem_cons, not_or] at hnd ⊢
    refine ⟨⟨(pne d hd1).symm, (pne m mH).symm, (pne q3 qH).symm, (pne f fH).symm, fun z => pne p (wH p z) rfl⟩, ⟨fun z => up4 d dH3 (z ▸ hmn), fun z => dH1 (z ▸ hn3), fun z => dH3 (z ▸ hfn), fun z => dH1 (wH1 d z)⟩, ⟨fun z => up4 q3 qH3 (z ▸ hmn), fun z => f4 (z ▸ hmn), fun z => up4 m (wH3 m z) hmn⟩, ⟨fun z => qH3 (z ▸ hfn), hnd.1⟩, fun z => wH3 f z hfn, hnd.2⟩
   have hdp := pne d hd1
   refine q _ d m ⟨q3, f, ws, []⟩ (mvH3.trans mvR) (fun b hb => ?_) ⟨⟨⟨dx, upd_same⟩, (hdd1.keeps sm3).mv mvR (by simpa using hdp), hm5.mv mvC (by simpa using pne m mH), ⟨mvR.at (by simpa using pne q3 qH) hq3, ((hf4.mv mvB (by simpa using pne f fH)).keeps sm5).mv mvC (by simpa using pne f fH), fun y hy => (hok y hy).1.mv mvR fun b hb => by simpa using pne b (wH b (List.mem_flatMap.mpr ⟨y, hy, hb⟩)), ?_⟩, hnd2⟩, gi_nil hus hok, unitsOf_ok hr6 hrs, .nil, .nil, fun x => Iff.rfl⟩
   . rcases List.mem_cons.mp hb with rfl | hb
     . exact hd1
     . rcases List.mem_cons.mp hb with rfl | hb
       . exact mH
       . rcases List.mem_cons.mp hb with rfl | hb
         . exact qH
         . rcases List.mem_cons.mp hb with rfl | hb
           . exact fH
           . exact wH b hb
   . have := hnd2
     rw [List.nodup_cons, List.nodup_cons, List.nodup_cons] at this
     exact this.2.2.2
theorem cal_Wheels_2 (T : Txt K mg a) : CalD P w K mg base 5 a.f_Wheels___init__ ["self", "rounds", "now"] [] (sp_wsinit a.C_Wheels a.C_Wheel a.C_NoRounds) :=
 ⟨⟨_, _, ok_wsinit T, T.F_Wheels___init__.binds fun _ _ _ _ _ _ s us kx hl => by
   obtain ⟨o, n, h1, h2⟩ := T.D_Wheels___init__.ex
   have hl : us.length = 3 := by simp at hl; omega
   match us, hl with
   | [_, _, _], _ => exact PySem.W.binds_K kx rfl h1 h2 rfl rfl, .nil⟩⟩
theorem b_Wheels_1 (T : Txt K mg a) : Binds K a.fd_Wheels___init__ ["self", "rounds", "now"] [.int 0 a.tk_Wheels___init___0] := T.F_Wheels___init__.binds fun _ _ _ _ _ _ s us kx hl => by
 obtain ⟨o, n, h1, h2⟩ := T.D_Wheels___init__.ex
 have hl : us.length = 2 := by simp at hl; omega
 match us, hl with
 | [_, _], _ => exact PySem.W.binds_K kx rfl h1 h2 rfl rfl
theorem cal_Wheels_1 (T : Txt K mg a) : CalD P w K mg base 5 a.f_Wheels___init__ ["self", "rounds", "now"] [.int 0] (sp_wsinit a.C_Wheels a.C_Wheel a.C_NoRounds) := ⟨⟨_, _, ok_wsinit T, b_Wheels_1 T, .cons ⟨_, rfl⟩ .nil⟩⟩
theorem good_of {rs : List Int} (h1 : 1 <= rs.length) (h6 : rs.length <= 6) (hr : ∀ r ∈ rs, 2 <= r /\ r <= 60) : good (rs.map PyData.int) /\ (rs.map PyData.int).all scD = true := by
 refine ⟨⟨by rw [List.length_map]; exact h1, by rw [List.length_map]; exact h6, ?_⟩, ?_⟩
 . rw [List.all_eq_true]
   intro d hd
   obtain ⟨r, hr', rfl⟩ := List.mem_map.mp hd
   show (decide (2 <= r) && decide (r <= 60)) = true
   rw [decide_eq_true (hr r hr').1, decide_eq_true (hr r hr').2]; rfl
 . rw [List.all_eq_true]
   intro d hd
   obtain ⟨r, hr', rfl⟩ := List.mem_map.mp hd
   rfl
theorem ints_inj : ∀ {rs rs' : List Int}, rs.map PyData.int = rs'.map PyData.int -> rs = rs'
 | [], [], _ => rfl
 | [], _ :: _, h => by cases h
 | _ :: _, [], h => by cases h
 | r :: rs, r' :: rs', h => by
   rw [List.map_cons, List.map_cons] at h
   injection h with h1 h2
   injection h1 with h1
   rw [h1, ints_inj h2]
theorem u_wsmake {C CW cN : Addr} {H : Hp} {Q : VK} {E : XK} {n : Int} {l : Addr} {rs : List Int} {us : List V} (eu : us = [.ref l, .int n]) (hl : LAt H l (rs.map PyData.int)) (h1 : 1 <= rs.length) (h6 : rs.length <= 6) (hr : ∀ r ∈ rs, 2 <= r /\ r <= 60)
 (k : ∀ x d m G H2, Same H H2 -> (∀ b ∈ x :: d :: m :: G.foot, H b = none) -> Wss C CW H2 x d m n (unitsOf 1 rs) G [] [] -> Q (.ref x) H2) : MakeP C (sp_wsinit C CW cN) us H Q E := by
 refine ⟨_, eu, fun x dx hx hd ne => ?_⟩
 have sm : Same H (upd (upd H dx (.own x)) x (.ins C dx [])) := fun b u e => by rw [upd_ne (ne_of_none e hx), upd_ne (ne_of_none e hd)]; exact e
 obtain ⟨hg, hs⟩ := good_of h1 h6 hr
 refine ⟨x, dx, l, _, n, rfl, upd_same, hl.keeps sm, by rw [List.length_map]; omega, hs, fun g => absurd hg g, fun rs' e _ _ _ H' d m G mv hfr hw => ⟨rfl, ?_⟩⟩
 obtain rfl := ints_inj e
 refine k x d m G H' (new_ins hx hd mv) (fun b hb => ?_) hw
 rcases List.mem_cons.mp hb with rfl | hb
 . exact hx
 . exact none_two (hfr b hb)
structure Ch (us : List (Int × Int)) : Prop where
 ok : UsOk us
 one : ∀ q, us[0]? = some q -> q.1 = 1
 nxt : ∀ (k : Nat) q q', us[k]? = some q -> us[k + 1]? = some q' -> q'.1 = q.1 * q.2
 pos : 0 < us.length
theorem Ch.mul {us : List (Int × Int)} (h : Ch us) : ∀ (k j : Nat) (q q' : Int × Int), j < k -> us[j]? = some q -> us[k]? = some q' -> ∃ r, 0 < r /\ q'.1 = q.1 * q.2 * r
 | 0, j, q, q', hj, _, _ => by omega
 | k + 1, j, q, q', hj, h1, h2 => by
   have hk : k < us.length := by have := (List.getElem?_eq_some_iff.mp h2).1; omega
   have hk1 := List.getElem?_eq_getElem hk
   have e := h.nxt k _ q' hk1 h2
   by_cases c : j = k
   . subst c
     rw [h1] at hk1
     cases hk1
     exact ⟨1, by decide, by rw [e, Int.mul_one]⟩
   . obtain ⟨r, r0, er⟩ := h.mul k j q _ (by omega) h1 hk1
     have hs := (h.ok _ (List.mem_of_getElem? hk1)).2.2.1
     refine ⟨r * us[k].2, Int.mul_pos r0 (by omega), ?_⟩
     rw [e, er, Int.mul_assoc]
theorem ediv_eq_of {a r t n : Int} (ha : 0 < a) (h : t / a = n / a) : t / (a * r) = n / (a * r) := by
 rw [<- Int.ediv_ediv_of_nonneg (Int.le_of_lt ha), <- Int.ediv_ediv_of_nonneg (Int.le_of_lt ha), h]
theorem spn_pos {us : List (Int × Int)} (h : Ch us) {k : Nat} {q : Int × Int} (hq : us[k]? = some q) : 0 < q.1 * q.2 /\ 0 < q.1 /\ 0 < q.2 := by
 obtain ⟨a1, a2, a3, a4⟩ := h.ok q (List.mem_of_getElem? hq)
 exact ⟨Int.mul_pos a1 (by omega), a1, by omega⟩
theorem apart_below {us : List (Int × Int)} (h : Ch us) {j k : Nat} {q q' : Int × Int} (hj : j < k) (h1 : us[j]? = some q) (h2 : us[k]? = some q') {t n : Int} (hne : ¬ t / q'.1 = n / q'.1) : ¬ t / (q.1 * q.2) = n / (q.1 * q.2) := fun e => by
 obtain ⟨r, _, er⟩ := h.mul k j q q' hj h1 h2
 rw [er] at hne
 exact hne (ediv_eq_of (spn_pos h h1).1 e)
def OutW (q : Int × Int) (now to t : Int) : Prop := to / (q.1 * q.2) = now / (q.1 * q.2) -> t / q.1 % q.2 <= to / q.1 % q.2
def Out (us : List (Int × Int)) (now to t : Int) : Prop := (∀ q, us[wAt us t now]? = some q -> OutW q now to t) /\ (wAt us t now = us.length -> ∀ q, us[us.length - 1]? = some q -> t / (q.1 * q.2) <= to / (q.1 * q.2))
theorem slot_split {u s t : Int} (hu : 0 <= u) : t / u = s * (t / (u * s)) + t / u % s := by
 rw [<- Int.ediv_ediv_of_nonneg hu]
 exact (Int.mul_ediv_add_emod (t / u) s).symm
theorem out_le {us : List (Int × Int)} (h : Ch us) {now to t : Int} (hle : t <= to) : Out us now to t := by
 refine ⟨fun q hq ho => ?_, fun _ q hq => Int.ediv_le_ediv (spn_pos h hq).1 hle⟩
 obtain ⟨p1, p2, p3⟩ := spn_pos h hq
 have hy := wAt_yes hq
 have a1 := slot_split (s := q.2) (t := t) (Int.le_of_lt p2)
 have a2 := slot_split (s := q.2) (t := to) (Int.le_of_lt p2)
 rw [hy] at a1
 rw [ho] at a2
 have := Int.ediv_le_ediv p2 hle
 omega
theorem last_at' {us : List (Int × Int)} (h : Ch us) : ∃ q, us[us.length - 1]? = some q := ⟨_, List.getElem?_eq_getElem (by have := h.pos; omega)⟩
theorem stay {us : List (Int × Int)} (h : Ch us) {now to t : Int} (ho : ¬ Out us now to t) : to < t /\ wAt us t to = wAt us t now := by
 have hto : to < t := by
  by_cases c : t <= to
  . exact absurd (out_le h c) ho
  . omega
 refine ⟨hto, ?_⟩
 by_cases c : wAt us t now = us.length
 . obtain ⟨q, hq⟩ := last_at' h
   have hno : ¬ t / (q.1 * q.2) <= to / (q.1 * q.2) := fun z => ho ⟨(fun q' hq' => by rw [c, List.getElem?_eq_none (Nat.le_refl _)] at hq'; cases hq'), (fun _ q' hq' => by rw [hq] at hq'; cases hq'; exact z)⟩
   rw [c]
   refine wAt_eq (fun j q' hj hq' e => ?_) (.inl rfl)
   by_cases cj : j = us.length - 1
   . subst cj
     rw [hq] at hq'; cases hq'
     omega
   . obtain ⟨r, _, er⟩ := h.mul (us.length - 1) j q' q (by omega) hq' hq
     have e2 : t / (q.1 * q.2) = to / (q.1 * q.2) := by
      rw [er, Int.mul_assoc]
      exact ediv_eq_of (spn_pos h hq').1 e
     omega
 . have hlt : wAt us t now < us.length := by have := wAt_le us t now; omega
   have hq := List.getElem?_eq_getElem hlt
   generalize us[wAt us t now] = q at hq
   have hnw : ¬ OutW q now to t := fun z => ho ⟨(fun q' hq' => by rw [hq] at hq'; cases hq'; exact z), (fun e => absurd e c)⟩
   have hh : to / (q.1 * q.2) = now / (q.1 * q.2) := by
    by_cases e : to / (q.1 * q.2) = now / (q.1 * q.2)
    . exact e
    . exact absurd (fun z => absurd z e) hnw
   have hs : ¬ t / q.1 % q.2 <= to / q.1 % q.2 := fun z => hnw fun _ => z
   have hy := wAt_yes hq
   refine wAt_eq (fun j q' hj hq' => apart_below h hj hq' hq fun e => hs (by rw [e]; exact Int.le_refl _)) (.inr ⟨q, hq, by rw [hy, hh]⟩)
theorem down {us : List (Int × Int)} (h : Ch us) {now to t : Int} (hnt : now <= to) (ho : Out us now to t) (hto : to < t) : wAt us t to < wAt us t now := by
 by_cases c : wAt us t now = us.length
 . obtain ⟨q, hq⟩ := last_at' h
   have h1 := ho.2 c q hq
   have h2 := Int.ediv_le_ediv (spn_pos h hq).1 (Int.le_of_lt hto)
   rw [c]
   by_cases d : wAt us t to < us.length
   . exact d
   . have hp := h.pos
     exact absurd (by omega : t / (q.1 * q.2) = to / (q.1 * q.2)) (wAt_not (k := us.length - 1) (by have := wAt_le us t to; omega) hq)
 . have hlt : wAt us t now < us.length := by have := wAt_le us t now; omega
   have hq := List.getElem?_eq_getElem hlt
   generalize us[wAt us t now] = q at hq
   obtain ⟨p1, p2, p3⟩ := spn_pos h hq
   have hy := wAt_yes hq
   have hw := ho.1 q hq
   have b1 := Int.ediv_le_ediv p1 hnt
   have b2 := Int.ediv_le_ediv p1 (Int.le_of_lt hto)
   have hh : to / (q.1 * q.2) = now / (q.1 * q.2) := by omega
   have hs := hw hh
   have a1 := slot_split (s := q.2) (t := t) (Int.le_of_lt p2)
   have a2 := slot_split (s := q.2) (t := to) (Int.le_of_lt p2)
   rw [hy] at a1
   rw [hh] at a2
   have b3 := Int.ediv_le_ediv p2 (Int.le_of_lt hto)
   have e : t / q.1 = to / q.1 := by omega
   cases hk : wAt us t now with
   | zero =>
     rw [hk] at hq
     rw [h.one q hq] at e
     rw [Int.ediv_one, Int.ediv_one] at e
     omega
   | succ k =>
     rw [hk] at hq
     have hkl : k < us.length := by omega
     have hq2 := List.getElem?_eq_getElem hkl
     have en := h.nxt k _ q hq2 hq
     by_cases d : wAt us t to <= k
     . omega
     . rw [en] at e
       exact absurd e (wAt_not (k := k) (by omega) hq2)
theorem unitsOf_ch {rs : List Int} (h1 : 1 <= rs.length) (hl : rs.length <= 6) (hr : ∀ r ∈ rs, 2 <= r /\ r <= 60) : Ch (unitsOf 1 rs) := by
 refine ⟨unitsOf_ok hl hr, fun q hq => (unitsOf_at rs 1 0 q hq).1, fun k q q' hq hq' => ?_, by rw [unitsOf_len]; omega⟩
 obtain ⟨a1, a2⟩ := unitsOf_at rs 1 k q hq
 obtain ⟨b1, _⟩ := unitsOf_at rs 1 (k + 1) q' hq'
 rw [b1, List.take_add_one, a2, a1]
 exact prodOf_snoc 1 q.2 (rs.take k)
theorem r_extL {H : Hp} {Q : VK} {p b : Addr} {ds es : List PyData} (hp : LAt H p ds) (hb : LAt H b es) (hl : ds.length + es.length <= 4000) (h : ∀ H2, Mv [p] H H2 -> LAt H2 p (ds ++ es) -> Q .non H2) : rExtend (.ref p) [.ref b] H Q := by
 obtain ⟨xs, e, dv, i⟩ := hp
 obtain ⟨zs, e2, dv2, i2⟩ := hb
 have m : Mv [p] H (upd H p (.lst (xs ++ zs))) := .of_upd e (by intro _ z; cases z)
 exact ⟨p, b, xs, zs, rfl, rfl, e, e2, by rw [dv.length, dv2.length]; exact Nat.le_of_lt (smaller hl), h _ m ⟨_, upd_same, m.dats (immAll_append i i2) (dv.append dv2), immAll_append i i2⟩⟩
def limOf (y : Wh) (now to : Int) : Int := if to / (y.u * y.s) = now / (y.u * y.s) then slotN y to else 59
def namesOf (cs : List Sl) : List Str := cs.flatMap (·.ns)
theorem namesOf_len {cs : List Sl} {L : Nat} (h : (namesOf cs).length <= L) {c : Sl} (hc : c ∈ cs) : c.ns.length <= L := by
 obtain ⟨a, b, e⟩ := List.append_of_mem hc
 unfold namesOf at h
 rw [e, List.flatMap_append, List.flatMap_cons, List.length_append, List.length_append] at h
 omega
theorem bits_and {m s : Int} (hm : 0 <= m) (hs : 0 <= s) : Builtin.bitAnd m (2 * 2 ^ s.toNat - 1) = ((m.toNat % 2 ^ (s.toNat + 1) : Nat) : Int) := by
 have e : (2 * 2 ^ s.toNat - 1 : Int) = ((2 ^ (s.toNat + 1) - 1 : Nat) : Int) := by
  have h1 : (2 : Int) ^ s.toNat = ((2 ^ s.toNat : Nat) : Int) := by norm_cast
  have h2 : 0 < 2 ^ s.toNat := Nat.two_pow_pos _
  rw [h1, Nat.pow_succ]
  omega
 rw [e, bitAnd_nat hm (by omega), Int.toNat_natCast, Nat.and_two_pow_sub_one_eq_mod]
def sp_letout (CW : Addr) : Sp := fun vs H Q _ => ∃ (z : Addr) (y : Wh) (nw to : Int), vs = [.ref z, .int nw, .int to] /\ z = y.x /\ WhAt CW H y /\ WhB y /\ y.foot.Nodup /\ (y.cs.map (·.k)).Nodup /\ MaskOk y /\ (∀ c ∈ y.cs, 0 <= c.k /\ c.k < 60) /\ (namesOf y.cs).length <= 3000 /\
 ∀ l H' y' vis, Mv y.foot H H' -> WhAt CW H' y' -> y'.x = y.x -> y'.dn = y.dn -> y'.u = y.u -> y'.s = y.s -> MaskOk y' -> y'.cs.Sublist y.cs -> (∀ c, c ∈ y'.cs ↔ c ∈ y.cs /\ ¬ c.k <= limOf y nw to) -> (vis ++ y'.cs).Perm y.cs -> (∀ c ∈ vis, c.k <= limOf y nw to) -> H l = none -> LAt H' l ((namesOf vis).map PyData.str) -> Q (.ref l) H'
theorem ok_letout (T : Txt K mg a) : FnOk P w K mg base CX0 2 a.f_Wheel_let_out a.fd_Wheel_let_out ["self", "now", "to"] (sp_letout a.C_Wheel) := by
 have n4 := T.na_Wheel_mask; have cl := T.cl_Wheel
 have m_holds := T.m_Wheel_holds; have m_slot_of := T.m_Wheel_slot_of; have m_empty := T.m_Wheel_empty
 have c_holds := cal_holds (P := P) (w := w) (base := base) T
 have c_slot_of := cal_slotof (P := P) (w := w) (base := base) T
 have c_empty := cal_empty (P := P) (w := w) (base := base) T
 refine T.F_Wheel_let_out.ok sc_Wheel_let_out (fun vs H Q E h => ?_) (fun cdv A outer s H vs Q E hr h => ?_)
 . obtain ⟨_, _, _, _, rfl, _⟩ := h; rfl
 . obtain ⟨_, y, nw, to, rfl, rfl, hw, hb, hfn, hkn, hmk, hk60, hlen, q⟩ := h
   obtain ⟨dx, hx⟩ := hw.i
   have hi : Ins H (.ref y.x) a.C_Wheel [("unit", .int y.u), ("slots", .int y.s), ("span", .int (y.u * y.s)), ("mask", .int y.m), ("names_in", .ref y.dn)] := ⟨y.x, dx, rfl, hx⟩
   have s0 := slotN_ge hb to
   have s1 := slotN_lt hb to
   have s2 := hb.2.2.2
   have hm0 := hmk.1
   refine ⟨_, (pss_cut (ps_set (i := 3) sc_Wheel_let_out.nd rfl (Or.inl rfl) (pe_fld (pv 0) rfl))
    (pss_cutM (ps_if (pt_truth (pn_meth (pv 0) cl m_holds c_holds (hr.mono (by decide)) (pa_cons (pv 2) (pa_cons (pv 1) pa_nil))) (fun _ => rfl))
     (pss_one (ps_set (i := 3) sc_Wheel_let_out.nd rfl (Or.inl rfl) (pe_op op_and (pv 3) (pe_op op_sub (pe_op op_shl pe_int (pn_meth (pv 0) cl m_slot_of c_slot_of (hr.mono (by decide)) (pa_cons (pv 2) pa_nil))) pe_int))))
     pss_nil)
    (pss_cut (ps_set (i := 4) sc_Wheel_let_out.nd rfl (Or.inl rfl) (pe_lstD pa_nil))
    (pss_cut (ps_while PassesOwn.never (pt_cmpR op_gt (pv 3) pe_int (nomark _))
     (pss_cut (ps_set (i := 5) sc_Wheel_let_out.nd rfl (Or.inl rfl) (pe_op op_sub (pe_bm0 PySem.F.plainAttrs_int PySem.F.slot_int_bit_length PySem.F.type_int_bit_length mt_bitlen (pv 3)) pe_int))
     (pss_cut (ps_expr (pe_bm PySem.F.plainAttrs_list PySem.F.slot_list_extend PySem.F.type_list_extend mt_extend (pv 4) (pa_cons (pn_meth (pv 0) cl m_empty c_empty (hr.mono (by decide)) (pa_cons (pv 5) pa_nil)) pa_nil)))
     (pss_one (ps_set (i := 3) sc_Wheel_let_out.nd rfl (Or.inl rfl) (pe_op op_xor (pv 3) (pe_op op_shl pe_int (pv 5))))))))
    (pss_one (ps_ret (pv 4))))))), ?_⟩
   repeat' (walk_at "rd1")
   refine r_cutM (fun σ' H' => H' = H /\ ∃ P : Nat, σ' = [some (.ref y.x), some (.int nw), some (.int to), some (.int P), none, none] /\ ∀ i : Nat, P.testBit i = y.cs.any fun c => decide (c.k = (i : Int) /\ c.k <= limOf y nw to)) ?_ ?_
   . repeat' (walk_at "rd1")
     refine u_holds rfl hw hb ?_
     repeat' (walk_at "rd1")
     . rename_i hh
       refine u_slotof rfl hw hb ?_
       refine r_i ⟨s0, by omega, by decide⟩ ?_
       repeat' (walk_at "rd1")
       refine ⟨rfl, y.m.toNat % 2 ^ ((slotN y to).toNat + 1), by rw [bits_and hm0 s0]; rfl, fun i => ?_⟩
       have hlim : limOf y nw to = slotN y to := if_pos hh
       rw [Nat.testBit_mod_two_pow, hmk.2 i, hlim, Bool.eq_iff_iff, Bool.and_eq_true, any_k, List.any_eq_true, decide_eq_true_eq]
       constructor
       . rintro ⟨h1, c, hc, e⟩
         exact ⟨c, hc, decide_eq_true ⟨e, by omega⟩⟩
       . rintro ⟨c, hc, e⟩
         obtain ⟨e1, e2⟩ := of_decide_eq_true e
         exact ⟨by omega, c, hc, e1⟩
     . rename_i hh
       refine ⟨rfl, y.m.toNat, by rw [Int.toNat_of_nonneg hm0]; rfl, fun i => ?_⟩
       have hlim : limOf y nw to = 59 := if_neg hh
       rw [hmk.2 i, hlim, Bool.eq_iff_iff, any_k, List.any_eq_true]
       constructor
       . rintro ⟨c, hc, e⟩
         have := hk60 c hc
         exact ⟨c, hc, decide_eq_true ⟨e, by omega⟩⟩
       . rintro ⟨c, hc, e⟩
         exact ⟨c, hc, (of_decide_eq_true e).1⟩
   . rintro σ' H' ⟨rfl, P0, rfl, hP0⟩
     generalize hlim : limOf y nw to = lim at *
     repeat' (walk_at "rd1")
     rename_i l H1 sm1 hn1 hl1
     have hw1 := hw.keeps sm1
     have hlf : l ∉ y.foot := fun z => hw.alive l z hn1
     refine r_while (fun M σ' H' => ∃ (P : Nat) (vis : List Sl) (y1 : Wh) (z : Option V), σ' = [some (.ref y.x), some (.int nw), some (.int to), some (.int P), some (.ref l), z] /\ M = P /\ Mv (l :: y.foot) H1 H' /\ WhAt a.C_Wheel H' y1 /\ y1.x = y.x /\ y1.dn = y.dn /\ y1.u = y.u /\ y1.s = y.s /\ MaskOk y1 /\ y1.cs.Sublist y.cs /\ (vis ++ y1.cs).Perm y.cs /\ (∀ c ∈ vis, c.k <= lim) /\ (∀ i : Nat, P.testBit i = y1.cs.any fun c => decide (c.k = (i : Int) /\ c.k <= lim)) /\ LAt H' l ((namesOf vis).map PyData.str)) ⟨P0, P0, [], y, none, rfl, rfl, Mv.refl, hw1, rfl, rfl, rfl, rfl, hmk, List.Sublist.refl _, List.Perm.refl _, (fun c h => nomatch h), hP0, hl1⟩ ?_
     rintro M σ' H2 ⟨P, vis, y1, z, rfl, rfl, mv, hwy, ex, ed, eu, es, hmk1, hsub, hperm, hvl, hP, hl2⟩
     have hin : ∀ c, c ∈ y1.cs -> c ∈ y.cs := fun c hc => hsub.subset hc
     have hfy : y1.foot.Sublist y.foot := by
      unfold Wh.foot
      rw [ex, ed]
      exact ((hsub.map _).cons₂ _).cons₂ _
     obtain ⟨dx2, hx2⟩ := hwy.i
     have hi2 : Ins H2 (.ref y.x) a.C_Wheel [("unit", .int y1.u), ("slots", .int y1.s), ("span", .int (y1.u * y1.s)), ("mask", .int y1.m), ("names_in", .ref y1.dn)] := ⟨y.x, dx2, rfl, by rw [<- ex]; exact hx2⟩
     repeat' (walk_at "rd1")
     . rename_i hM
       have hM0 : 0 < M := by omega
       refine ⟨rfl, (M : Int), rfl, rfl, ?_⟩
       have eS : ((Builtin.Int.intBits (M : Int) : Nat) : Int) - 1 = (M.log2 : Int) := by
        unfold Builtin.Int.intBits
        have : ¬ ((M : Int) == 0) = true := by simp; omega
        rw [if_neg this, Int.natAbs_natCast]
        omega
       repeat' (walk_at "rd1")
       rw [eS]
       have htb : M.testBit M.log2 = true := testBit_log hM0
       have hbk := hP M.log2
       rw [htb] at hbk
       obtain ⟨c, hc, hck⟩ := List.any_eq_true.mp hbk.symm
       obtain ⟨hk, hcl⟩ := of_decide_eq_true hck
       have hcy := hin c hc
       have hk2 := hk60 c hcy
       have hky1 : (y1.cs.map (·.k)).Nodup := hkn.sublist (hsub.map _)
       repeat' (walk_at "rd1")
       refine ⟨y.x, y1, (M.log2 : Int), c, rfl, ex.symm, hwy, by unfold WhB; rw [eu, es]; exact hb, hfn.sublist hfy, hky1, hc, hk, by omega, by omega, fun q2 H3 mv3 hw3 hq2n hq2 => ?_⟩
       have hly : l ∉ y1.foot := fun z => hlf (hfy.subset z)
       have hl3 := hl2.mv mv3 hly
       have hln : ((namesOf vis).map PyData.str).length + (c.ns.map PyData.str).length <= 3000 := by
        have h1 := (hperm.flatMap_right (·.ns)).length_eq
        rw [List.flatMap_append, List.length_append] at h1
        have h2 := namesOf_len (cs := y1.cs) (Nat.le_refl _) hc
        unfold namesOf at hlen h2 ⊢
        rw [List.length_map, List.length_map]
        omega
       repeat' (walk_at "rd1")
       refine r_extL hl3 hq2 (by omega) (fun H4 mv4 hl4 => ?_)
       repeat' (walk_at "rd1")
       refine r_i ⟨by omega, by omega, by decide⟩ ?_
       repeat' (walk_at "rd1")
       rw [Int.toNat_natCast] at hw3 ⊢
       rw [bitXor_pow (by omega) (by rw [Int.toNat_natCast]; exact htb), Int.toNat_natCast]
       have hpw : 0 < 2 ^ M.log2 := Nat.two_pow_pos _
       have hple : 2 ^ M.log2 <= M := Nat.ge_two_pow_of_testBit htb
       have hne : ∀ d ∈ y1.cs, d.k = (M.log2 : Int) -> d = c := fun d hd e => k_inj hky1 hd hc (e.trans hk.symm)
       have hdp : (c :: dropS y1.cs (M.log2 : Int)).Perm y1.cs := by
        obtain ⟨A1, B1, e⟩ := List.append_of_mem hc
        have hnd := hky1
        rw [e, List.map_append, List.map_cons, List.nodup_append, List.nodup_cons] at hnd
        have f1 : A1.filter (fun c => !decide (c.k = (M.log2 : Int))) = A1 := List.filter_eq_self.mpr fun d hd => by
         have := hnd.2.2 d.k (List.mem_map_of_mem hd) c.k List.mem_cons_self
         simpa [<- hk] using this
        have f2 : B1.filter (fun c => !decide (c.k = (M.log2 : Int))) = B1 := List.filter_eq_self.mpr fun d hd => by
         have : d.k ≠ c.k := fun z => hnd.2.1.1 (z ▸ List.mem_map_of_mem hd)
         simpa [<- hk] using this
        have f3 : dropS y1.cs (M.log2 : Int) = A1 ++ B1 := by
         unfold dropS
         rw [e, List.filter_append, List.filter_cons, if_neg (by simp [hk]), f1, f2]
        rw [f3, e]
        exact (List.perm_middle).symm
       refine ⟨M - 2 ^ M.log2, by omega, M - 2 ^ M.log2, vis ++ [c], y1.emptied (M.log2 : Int) (Builtin.bitXor y1.m (1 * 2 ^ M.log2)), _, rfl, rfl, Mv.step (Mv.step mv mv3 fun b hb => .inl (List.mem_cons_of_mem _ (hfy.subset hb))) mv4 fun b hb => .inl (by rw [List.mem_singleton.mp hb]; exact List.mem_cons_self), hw3.mv mv4 fun b hb => ?_, ex, ed, eu, es, ?_, (List.filter_sublist).trans hsub, ?_, fun d hd => ?_, fun i => ?_, ?_⟩
       . have : b ∈ y1.foot := (emptied_foot y1 _ _).subset hb
         simpa using fun z : b = l => hly (z ▸ this)
       . have := mask_empty (slot := (M.log2 : Int)) hmk1 (by omega) hc hk
         rwa [Int.toNat_natCast] at this
       . rw [List.append_assoc]
         exact ((List.Perm.refl vis).append (by rw [List.singleton_append]; exact hdp)).trans hperm
       . rcases List.mem_append.mp hd with hd | hd
         . exact hvl d hd
         . rw [List.mem_singleton.mp hd]; exact hcl
       . rw [testBit_sub htb, hP i, Bool.eq_iff_iff, Bool.and_eq_true, decide_eq_true_eq, List.any_eq_true, List.any_eq_true]
         constructor
         . rintro ⟨⟨d, hd, e⟩, hne'⟩
           obtain ⟨e1, e2⟩ := of_decide_eq_true e
           exact ⟨d, List.mem_filter.mpr ⟨hd, by simp; omega⟩, e⟩
         . rintro ⟨d, hd, e⟩
           obtain ⟨hd1, hd2⟩ := List.mem_filter.mp hd
           obtain ⟨e1, e2⟩ := of_decide_eq_true e
           have hd2 : ¬ d.k = (M.log2 : Int) := by simpa using hd2
           exact ⟨⟨d, hd1, e⟩, by omega⟩
       . have e : (namesOf (vis ++ [c])).map PyData.str = (namesOf vis).map PyData.str ++ c.ns.map PyData.str := by
          unfold namesOf
          rw [List.flatMap_append, List.map_append]
          simp
         rw [e]; exact hl4
     . rename_i hM
       have hM0 : M = 0 := by omega
       subst hM0
       have hno : ∀ c ∈ y1.cs, ¬ c.k <= lim := fun c hc hl => by
        have h1 := hk60 c (hin c hc)
        have h2 := hP c.k.toNat
        rw [Nat.zero_testBit] at h2
        have h3 : (y1.cs.any fun d => decide (d.k = (c.k.toNat : Int) /\ d.k <= lim)) = true := List.any_eq_true.mpr ⟨c, hc, decide_eq_true ⟨by omega, hl⟩⟩
        rw [h3] at h2; cases h2
       refine q l H2 y1 vis ?_ hwy ex ed eu es hmk1 hsub (fun c => ⟨fun hc => ⟨hin c hc, hno c hc⟩, fun ⟨h1, h2⟩ => ?_⟩) hperm hvl hn1 hl2
       . exact Mv.step (sm1.mv) mv fun b hb => by
          rcases List.mem_cons.mp hb with rfl | hb
          . exact .inr hn1
          . exact .inl hb
       . rcases List.mem_append.mp (hperm.mem_iff.mpr h1) with h3 | h3
         . exact absurd (hvl c h3) h2
         . exact h3
theorem cal_letout (T : Txt K mg a) : Cal P w K mg base 2 a.f_Wheel_let_out ["self", "now", "to"] [] (sp_letout a.C_Wheel) :=
 ⟨⟨_, _, ok_letout T, T.F_Wheel_let_out.binds fun _ _ _ _ _ _ => .all fun us hl => match us, hl with | [_, _, _], _ => rfl, .nil⟩⟩
def sp_near (C CW : Addr) : Sp := fun vs H Q _ => ∃ (p dx d m : Addr) (n : Int) (G : Geo) (us : List (Int × Int)) (ql : Int × Int) (to : Int), vs = [.ref p, .int to] /\ H p = some (.ins C dx (wsF n d G.q G.f m)) /\ GAt CW H G /\ G.ws.map (fun w => (w.u, w.s)) = us /\ Ch us /\ us[us.length - 1]? = some ql /\ p ∉ G.foot /\ G.far.length <= 3000 /\ (G.far.Pairwise fun c d => ltIS d c = true) /\
 ∀ l H' keep gone, Mv [G.f] H H' -> GAt CW H' ⟨G.q, G.f, G.ws, keep⟩ -> G.far = keep ++ gone -> H l = none -> LAt H' l ((gone.reverse.map (·.2)).map PyData.str) -> (∀ c ∈ gone, c.1 / (ql.1 * ql.2) <= to / (ql.1 * ql.2)) -> (∀ c ∈ keep, ¬ c.1 / (ql.1 * ql.2) <= to / (ql.1 * ql.2)) -> Q (.ref l) H'
theorem lastV_at {ws : List Wh} {y : Wh} (h : ws[ws.length - 1]? = some y) : atI (ws.map fun w => V.ref w.x) (-1) = some (.ref y.x) := by
 obtain ⟨hk, rfl⟩ := List.getElem?_eq_some_iff.mp h
 have e : ixN (ws.map fun w => V.ref w.x).length (-1) = some (ws.length - 1) := by
  unfold ixN
  rw [List.length_map]
  simp
  omega
 unfold atI
 rw [e]
 simp [hk]
theorem last_atD {xs : List PyData} {x : PyData} : atI (xs ++ [x]) (-1) = some x := by
 unfold atI
 have e : ixN (xs ++ [x]).length (-1) = some xs.length := by
  unfold ixN
  rw [List.length_append]
  simp
  omega
 rw [e]
 simp
theorem r_popL {H : Hp} {Q : VK} {p : Addr} {ks : List (Int × Str)} {c : Int × Str} (hp : LAt H p (ks.map pairD ++ [pairD c])) (h : ∀ v H2, Dv H2 v (.tuple [.int c.1, .str c.2]) -> Mv [p] H H2 -> LAt H2 p (ks.map pairD) -> Q v H2) : rPop (.ref p) [] H Q := by
 obtain ⟨xs, e, dv, im⟩ := hp
 have hxl : xs.length = ks.length + 1 := by rw [dv.length, List.length_append, List.length_map]; rfl
 have hlt : xs.length - 1 < xs.length := by omega
 have m : Mv [p] H (upd H p (.lst xs.dropLast)) := .of_upd e (by intro _ z; cases z)
 obtain ⟨v, hv, hd⟩ := dv.get (i := xs.length - 1) (d := pairD c) (by rw [hxl, Nat.add_sub_cancel, List.getElem?_append_right (by rw [List.length_map]; omega)]; simp)
 refine ⟨p, xs, v, rfl, rfl, e, hv, h v _ (m.dat rfl hd) m ⟨_, upd_same, m.dats (immAll_map (fun _ => rfl) _) ?_, immAll_map (fun _ => rfl) _⟩⟩
 have := dv.take ks.length
 rw [List.take_left' (by rw [List.length_map])] at this
 rw [List.dropLast_eq_take, hxl, Nat.add_sub_cancel]
 exact this
theorem ok_near (T : Txt K mg a) : FnOk P w K mg base CX0 1 a.f_Wheels_come_near a.fd_Wheels_come_near ["self", "to"] (sp_near a.C_Wheels a.C_Wheel) := by
 have n1 := T.na_Wheels_wheels; have n2 := T.na_Wheels_far; have cl := T.cl_Wheels
 have n3 := T.na_Wheel_span; have clw := T.cl_Wheel
 refine T.F_Wheels_come_near.ok sc_Wheels_come_near (fun vs H Q E h => ?_) (fun cdv A outer s H vs Q E hr h => ?_)
 . obtain ⟨_, _, _, _, _, _, _, _, _, rfl, _⟩ := h; rfl
 . obtain ⟨p, dx, d, m, n, G, us, ql, to, rfl, hp, hg, hus, hch, hql, hpf, hfl, hsrt, q⟩ := h
   have hi : Ins H (.ref p) a.C_Wheels [("now", .int n), ("times", .ref d), ("wheels", .ref G.q), ("far", .ref G.f), ("moves", .ref m)] := ⟨p, dx, rfl, hp⟩
   have hul : us.length = G.ws.length := by rw [<- hus, List.length_map]
   obtain ⟨y, hy, eq⟩ : ∃ y, G.ws[G.ws.length - 1]? = some y /\ (y.u, y.s) = ql := by
    rw [hul, <- hus, List.getElem?_map] at hql
    cases e : G.ws[G.ws.length - 1]? with
    | none => rw [e] at hql; cases hql
    | some y => rw [e] at hql; exact ⟨y, rfl, Option.some.inj hql⟩
   have hsp := spn_pos hch hql
   obtain ⟨hq1, hq2, hq3, hq4⟩ := hch.ok _ (List.mem_of_getElem? hql)
   have hwy := hg.w y (List.mem_of_getElem? hy)
   obtain ⟨dxy, hxy⟩ := hwy.i
   have hiy : Ins H (.ref y.x) a.C_Wheel [("unit", .int y.u), ("slots", .int y.s), ("span", .int (y.u * y.s)), ("mask", .int y.m), ("names_in", .ref y.dn)] := ⟨y.x, dxy, rfl, hxy⟩
   have esp : y.u * y.s = ql.1 * ql.2 := by rw [<- eq]
   have hle : ql.1 * ql.2 <= 10 ^ 12 * 60 := Int.mul_le_mul hq2 hq4 (by omega) (by decide)
   rw [esp] at hiy
   have hp0 := hsp.1
   generalize hSP : ql.1 * ql.2 = sp at *
   refine ⟨_, (pss_cut (ps_set (i := 2) sc_Wheels_come_near.nd rfl (Or.inl rfl) (pe_fld (pe_ix ix_K (pe_fld (pv 0) rfl) (pe_un un_neg pe_int) (fun _ _ => rfl)) rfl))
    (pss_cut (ps_set (i := 3) sc_Wheels_come_near.nd rfl (Or.inl rfl) (pe_lstD pa_nil))
    (pss_cut (ps_while PassesOwn.never (PW.pt (pw_and (pt_truth (pe_fld (pv 0) rfl) (fun _ => rfl)) (pw_and1 (pt_cmpR op_le (pe_op op_fdivB (pe_ix ix_K (pe_ix ix_K (pe_fld (pv 0) rfl) (pe_un un_neg pe_int) (fun _ _ => rfl)) pe_int (fun _ _ => rfl)) (pv 2)) (pe_op op_fdivB (pv 1) (pv 2)) (nomark _)))))
     (pss_one (ps_expr (pe_bm PySem.F.plainAttrs_list PySem.F.slot_list_append PySem.F.type_list_append mt_append (pv 3) (pa_cons (pe_ix ix_K (pe_bm0 PySem.F.plainAttrs_list PySem.F.slot_list_pop PySem.F.type_list_pop mt_pop (pe_fld (pv 0) rfl)) pe_int (fun _ _ => rfl)) pa_nil)))))
    (pss_one (ps_ret (pv 3)))))), ?_⟩
   repeat' (walk_at "rd1")
   refine r_ixL (.of hg.q) (lastV_at hy) ?_
   repeat' (walk_at "rd1")
   rename_i nl H1 sm1 hn1 hl1
   have hg1 := hg.keeps sm1
   have hi1 := hi.keeps sm1
   have hff : G.f ≠ nl := fun z => by
    obtain ⟨xs, e, _⟩ := hg.f
    rw [z, hn1] at e; cases e
   have hpg : p ≠ G.f := fun z => hpf (by simp [Geo.foot, z])
   have hpn : p ≠ nl := ne_of_none hp hn1
   refine r_while (fun M σ' H' => ∃ keep gone, σ' = [some (.ref p), some (.int to), some (.int sp), some (.ref nl)] /\ M = keep.length /\ G.far = keep ++ gone /\ Mv [nl, G.f] H1 H' /\ LAt H' G.f (keep.map pairD) /\ LAt H' nl ((gone.reverse.map (·.2)).map PyData.str) /\ ∀ c ∈ gone, c.1 / sp <= to / sp) ⟨_, G.far, [], rfl, rfl, (List.append_nil _).symm, Mv.refl, hg1.f, hl1, (fun c h => nomatch h)⟩ ?_
   rintro M σ' H2 ⟨keep, gone, rfl, rfl, efar, mv, hf2, hl2, hgone⟩
   have hi2 : Ins H2 (.ref p) a.C_Wheels [("now", .int n), ("times", .ref d), ("wheels", .ref G.q), ("far", .ref G.f), ("moves", .ref m)] := ⟨p, dx, rfl, mv.at (by simp [hpn, hpg]) (sm1 _ _ hp)⟩
   have fin : (∀ c ∈ keep, ¬ c.1 / sp <= to / sp) -> Q (.ref nl) H2 := fun hk => by
    have hgk : GAt a.C_Wheel H2 ⟨G.q, G.f, G.ws, keep⟩ := by
     obtain ⟨f1, f2, f3⟩ := hg1.foot1
     have nq : ∀ b ∈ G.foot, b ≠ nl := fun b hb z => hg.alive b hb (z ▸ hn1)
     have hqf : G.q ∈ G.foot := by simp [Geo.foot]
     refine ⟨mv.at ?_ hg1.q, hf2, fun w hw => (hg1.w w hw).mv mv fun b hb => ?_, hg1.nd⟩
     . simp [nq G.q hqf, f1]
     . have := nq b (foot_w hw b hb)
       simp [this, (f2 w hw b hb).2]
    refine q nl H2 keep gone ?_ hgk efar hn1 hl2 hgone hk
    exact Mv.step (sm1.mv) mv fun b hb => by
     have : b = nl \/ b = G.f := by simpa using hb
     rcases this with rfl | rfl
     . exact .inr hn1
     . exact .inl (by simp)
   rcases List.eq_nil_or_concat keep with rfl | ⟨k0, c, rfl⟩
   . repeat' (walk_at "rd1")
     exact fin (fun c h => nomatch h)
   . have hf2' := hf2
     rw [List.concat_eq_append, List.map_append] at hf2'
     have hpw := hsrt
     rw [efar, List.concat_eq_append, List.append_assoc, List.pairwise_append, List.pairwise_append] at hpw
     repeat' (walk_at "rd1")
     refine r_ixD (.inr hf2'.dv) last_atD ?_
     show GotD H2 (.tuple [.int c.1, .str c.2]) _
     repeat' (walk_at "rd1")
     . rename_i v0 hv0 hb
       refine r_popL hf2' (fun v3 H3 hv3 mv3 hf3 => ?_)
       have hl3 := hl2.mv mv3 (by simpa using Ne.symm hff)
       have hgl : gone.length <= 3000 := by
        have := congrArg List.length efar
        rw [List.length_append] at this
        omega
       have hdl : ((gone.reverse.map (·.2)).map PyData.str).length = gone.length := by rw [List.length_map, List.length_map, List.length_reverse]
       repeat' (walk_at "rd1")
       rename_i H4 mv4 hl4
       have hf4 := hf3.mv mv4 (by simpa using hff)
       refine ⟨k0.length, by rw [List.concat_eq_append, List.length_append]; simp, k0, c :: gone, rfl, rfl, by rw [efar, List.concat_eq_append, List.append_assoc]; rfl, ?_, hf4, ?_, fun e he => ?_⟩
       . exact Mv.step (Mv.step mv mv3 fun b hb => .inl (by rw [List.mem_singleton.mp hb]; simp)) mv4 fun b hb => .inl (by rw [List.mem_singleton.mp hb]; simp)
       . rw [List.reverse_cons, List.map_append, List.map_append]; exact hl4
       . rcases List.mem_cons.mp he with rfl | he
         . exact hb
         . exact hgone e he
     . rename_i v0 hv0 hb
       refine fin fun e he => ?_
       rw [List.concat_eq_append] at he
       rcases List.mem_append.mp he with he | he
       . have h1 := hpw.2.2 e he c (by simp)
         have h2 : c.1 <= e.1 := by
          rcases ltIS_iff.mp h1 with h | h
          . omega
          . omega
         have h3 := Int.ediv_le_ediv hp0 h2
         omega
       . rw [List.mem_singleton.mp he]; exact hb
theorem cal_near (T : Txt K mg a) : Cal P w K mg base 1 a.f_Wheels_come_near ["self", "to"] [] (sp_near a.C_Wheels a.C_Wheel) :=
 ⟨⟨_, _, ok_near T, T.F_Wheels_come_near.binds fun _ _ _ _ _ _ => .all fun us hl => match us, hl with | [_, _], _ => rfl, .nil⟩⟩
theorem GI.ext {us : List (Int × Int)} {n : Int} {ts ts' : List (Str × Int)} {G : Geo} (h : GI us n ts G) (e : ∀ y, y ∈ ts ↔ y ∈ ts') : GI us n ts' G :=
 ⟨h.eu, fun k w hw => (h.wh k w hw).congr fun x j => ⟨fun ⟨t, h1, h2⟩ => ⟨t, (e _).mp h1, h2⟩, fun ⟨t, h1, h2⟩ => ⟨t, (e _).mpr h1, h2⟩⟩, fun c => (h.far c).trans ⟨fun ⟨h1, h2⟩ => ⟨(e _).mp h1, h2⟩, fun ⟨h1, h2⟩ => ⟨(e _).mpr h1, h2⟩⟩, h.srt⟩
theorem flat_nd {cs : List Sl} (hk : (cs.map (·.k)).Nodup) (hn : ∀ c ∈ cs, c.ns.Nodup) (hd : ∀ c ∈ cs, ∀ d ∈ cs, ∀ x, x ∈ c.ns -> x ∈ d.ns -> c.k = d.k) : (namesOf cs).Nodup := by
 unfold namesOf
 induction cs with
 | nil => exact .nil
 | cons c r ih =>
   rw [List.map_cons, List.nodup_cons] at hk
   rw [List.flatMap_cons, List.nodup_append]
   refine ⟨hn c List.mem_cons_self, ih hk.2 (fun d hd' => hn d (List.mem_cons_of_mem _ hd')) fun d hd' e he => hd d (List.mem_cons_of_mem _ hd') e (List.mem_cons_of_mem _ he), fun x hx y hy e => ?_⟩
   obtain ⟨d, hd', hy'⟩ := List.mem_flatMap.mp hy
   have := hd c List.mem_cons_self d (List.mem_cons_of_mem _ hd') x hx (e ▸ hy')
   exact hk.1 (this ▸ List.mem_map_of_mem hd')
theorem GI.names_nd {us : List (Int × Int)} {n : Int} {ts : List (Str × Int)} {G : Geo} (h : GI us n ts G) (hnd : (ts.map (·.1)).Nodup) {k : Nat} {w : Wh} (hw : G.ws[k]? = some w) {cs : List Sl} (hs : ∀ c ∈ cs, c ∈ w.cs) (hk : (cs.map (·.k)).Nodup) : (namesOf cs).Nodup := by
 have hi := h.wh k w hw
 refine flat_nd hk (fun c hc => (hi.ne c (hs c hc)).2.1) fun c hc d hd x hx hx' => ?_
 obtain ⟨t, ht, _, e⟩ := (hi.mem x c.k).mp ⟨c, hs c hc, rfl, hx⟩
 obtain ⟨t', ht', _, e'⟩ := (hi.mem x d.k).mp ⟨d, hs d hd, rfl, hx'⟩
 rw [nd_one hnd ht ht'] at e
 exact e.symm.trans e'
theorem mem_names {cs : List Sl} {x : Str} : x ∈ namesOf cs ↔ ∃ c ∈ cs, x ∈ c.ns := List.mem_flatMap
theorem out_slot {us : List (Int × Int)} {n to t : Int} {w : Wh} (hq : us[wAt us t n]? = some (w.u, w.s)) (hb : WhB w) (hl : wAt us t n < us.length) : Out us n to t ↔ t / w.u % w.s <= limOf w n to := by
 have hsl : t / w.u % w.s < w.s := Int.emod_lt_of_pos _ (by have := hb.2.2.1; omega)
 have hs6 := hb.2.2.2
 unfold limOf
 constructor
 . intro ho
   have := ho.1 _ hq
   split
   . rename_i e; exact this e
   . omega
 . intro hlim
   refine ⟨fun q hq' e => ?_, fun e => absurd e (by omega)⟩
   rw [hq] at hq'
   cases hq'
   rw [if_pos e] at hlim
   exact hlim
def WsRel (us : List (Int × Int)) (n to : Int) (ws ws' : List Wh) (i : Nat) : Prop := ws'.length = ws.length /\ (∀ j, i <= j -> ws'[j]? = ws[j]?) /\ ∀ (j : Nat) w, j < i -> ws[j]? = some w -> ∃ w', ws'[j]? = some w' /\ w'.x = w.x /\ w'.dn = w.dn /\ w'.u = w.u /\ w'.s = w.s /\ MaskOk w' /\ w'.cs.Sublist w.cs /\ ∀ c, c ∈ w'.cs ↔ c ∈ w.cs /\ ¬ c.k <= limOf w n to
theorem gi_stay {us : List (Int × Int)} {n to : Int} {ts st : List (Str × Int)} {G : Geo} {ws' : List Wh} {keep gone : List (Int × Str)} {ql : Int × Int} (h : GI us n ts G) (hch : Ch us) (hst : ∀ y, y ∈ st ↔ y ∈ ts /\ ¬ Out us n to y.2) (hr : WsRel us n to G.ws ws' G.ws.length) (hf : G.far = keep ++ gone) (hql : us[us.length - 1]? = some ql) (hg : ∀ c ∈ gone, c.1 / (ql.1 * ql.2) <= to / (ql.1 * ql.2)) (hk : ∀ c ∈ keep, ¬ c.1 / (ql.1 * ql.2) <= to / (ql.1 * ql.2)) : GI us to st ⟨G.q, G.f, ws', keep⟩ := by
 have hul := h.len
 obtain ⟨r1, r2, r3⟩ := hr
 refine ⟨?_, fun k w' hw' => ?_, fun c => ?_, ?_⟩
 . refine List.ext_getElem? fun j => ?_
   rw [<- h.eu]
   show (ws'.map fun w => (w.u, w.s))[j]? = (G.ws.map fun w => (w.u, w.s))[j]?
   rw [List.getElem?_map, List.getElem?_map]
   by_cases c : j < G.ws.length
   . obtain ⟨w', e1, _, _, e4, e5, _⟩ := r3 j _ c (List.getElem?_eq_getElem c)
     rw [e1, List.getElem?_eq_getElem c]
     simp [e4, e5]
   . rw [r2 j (by omega)]
 . have hw' : ws'[k]? = some w' := hw'
   have hkl : k < G.ws.length := by have := (List.getElem?_eq_some_iff.mp hw').1; omega
   have hw := List.getElem?_eq_getElem hkl
   generalize G.ws[k] = w at hw
   obtain ⟨w2, e1, e2, e3, e4, e5, hm, hsub, hmem⟩ := r3 k w hkl hw
   rw [hw'] at e1
   cases e1
   have hi := h.wh k w hw
   have hq := h.at hw
   have hb := h.bnd hch.ok hw
   refine ⟨hm, hi.nd.sublist (hsub.map _), fun c hc => ?_, fun x j => ?_⟩
   . obtain ⟨a1, a2, a3, a4⟩ := hi.ne c (hsub.subset hc)
     exact ⟨a1, a2, a3, by rw [e5]; exact a4⟩
   . rw [e4, e5]
     constructor
     . rintro ⟨c, hc, hkj, hx⟩
       obtain ⟨hc1, hc2⟩ := (hmem c).mp hc
       obtain ⟨t, ht, ht2, ht3⟩ := (hi.mem x j).mp ⟨c, hc1, hkj, hx⟩
       have hno : ¬ Out us n to t := fun ho => by
        have := (out_slot (to := to) (by rw [ht2]; exact hq) hb (by omega)).mp ho
        rw [ht3, <- hkj] at this
        exact hc2 this
       exact ⟨t, (hst _).mpr ⟨ht, hno⟩, (stay hch hno).2.trans ht2, ht3⟩
     . rintro ⟨t, ht, ht2, ht3⟩
       obtain ⟨ht1, hno⟩ := (hst _).mp ht
       have hno : ¬ Out us n to t := hno
       have ht2' : wAt us t n = k := (stay hch hno).2.symm.trans ht2
       obtain ⟨c, hc, hkj, hx⟩ := (hi.mem x j).mpr ⟨t, ht1, ht2', ht3⟩
       refine ⟨c, (hmem c).mpr ⟨hc, fun hl => hno ?_⟩, hkj, hx⟩
       refine (out_slot (to := to) (by rw [ht2']; exact hq) hb (by omega)).mpr ?_
       rw [ht3, <- hkj]; exact hl
 . show c ∈ keep ↔ _
   have hcf := h.far c
   rw [hf, List.mem_append] at hcf
   constructor
   . intro hc
     obtain ⟨h1, h2⟩ := hcf.mp (.inl hc)
     have hno : ¬ Out us n to c.1 := fun ho => hk c hc (ho.2 h2 ql hql)
     exact ⟨(hst _).mpr ⟨h1, hno⟩, (stay hch hno).2.trans h2⟩
   . rintro ⟨h1, h2⟩
     obtain ⟨h3, hno⟩ := (hst _).mp h1
     have hno : ¬ Out us n to c.1 := hno
     have h4 : wAt us c.1 n = us.length := (stay hch hno).2.symm.trans h2
     rcases hcf.mpr ⟨h3, h4⟩ with hc | hc
     . exact hc
     . refine absurd ⟨fun q hq => ?_, fun _ q hq => ?_⟩ hno
       . rw [h4, List.getElem?_eq_none (Nat.le_refl _)] at hq; cases hq
       . rw [hql] at hq; cases hq; exact hg c hc
 . have := h.srt
   rw [hf] at this
   exact (List.pairwise_append.mp this).1
def tOf (ts : List (Str × Int)) (x : Str) : Int := ((ts.find? fun y => decide (y.1 = x)).map (·.2)).getD 0
theorem tOf_eq {ts : List (Str × Int)} (hn : (ts.map (·.1)).Nodup) {x : Str} {t : Int} (h : (x, t) ∈ ts) : tOf ts x = t := by
 unfold tOf
 cases e : ts.find? fun y => decide (y.1 = x) with
 | none =>
   rw [List.find?_eq_none] at e
   exact absurd (by simp) (e _ h)
 | some y =>
   have h1 := List.mem_of_find?_eq_some e
   have h2 : y.1 = x := by simpa using List.find?_some e
   have h3 : (x, y.2) ∈ ts := by rw [<- h2]; exact h1
   exact nd_one hn h3 h
def setT (mv : List (Str × Int)) (x : Str) (v : Int) : List (Str × Int) := mv.map fun y => if y.1 = x then (y.1, v) else y
theorem setT_names (mv : List (Str × Int)) (x : Str) (v : Int) : (setT mv x v).map (·.1) = mv.map (·.1) := by
 unfold setT
 rw [List.map_map]
 refine List.map_congr_left fun y _ => ?_
 show (if y.1 = x then (y.1, v) else y).1 = y.1
 split <;> rfl
theorem setT_put {mv : List (Str × Int)} {x : Str} {v : Int} (h : x ∈ mv.map (·.1)) : putD (tmD mv) x (.int v) = tmD (setT mv x v) := by
 unfold putD
 have e : ((tmD mv).any fun kv => decide (kv.1 = x)) = true := by
  obtain ⟨y, hy, rfl⟩ := List.mem_map.mp h
  exact List.any_eq_true.mpr ⟨(y.1, .int y.2), List.mem_map.mpr ⟨y, hy, rfl⟩, by simp⟩
 rw [if_pos e]
 unfold tmD setT
 rw [List.map_map, List.map_map]
 refine List.map_congr_left fun y _ => ?_
 simp only [Function.comp]
 split <;> rfl
theorem setT_mem {mv : List (Str × Int)} {x : Str} {v : Int} {y : Str × Int} (hx : x ∈ mv.map (·.1)) : y ∈ setT mv x v ↔ (y.1 = x /\ y.2 = v) \/ (y.1 ≠ x /\ y ∈ mv) := by
 unfold setT
 constructor
 . intro h
   obtain ⟨z, hz, rfl⟩ := List.mem_map.mp h
   by_cases e : z.1 = x
   . rw [if_pos e]; exact .inl ⟨e, rfl⟩
   . rw [if_neg e]; exact .inr ⟨e, hz⟩
 . rintro (⟨h1, h2⟩ | ⟨h1, h2⟩)
   . obtain ⟨z, hz, e⟩ := List.mem_map.mp hx
     exact List.mem_map.mpr ⟨z, hz, by rw [if_pos e]; exact Prod.ext (e.trans h1.symm) h2.symm⟩
   . exact List.mem_map.mpr ⟨y, h2, if_neg h1⟩
open Classical in
noncomputable def stayL (us : List (Int × Int)) (n to : Int) (ts : List (Str × Int)) : List (Str × Int) := ts.filter fun y => decide (¬ Out us n to y.2)
open Classical in
theorem mem_stayL {us : List (Int × Int)} {n to : Int} {ts : List (Str × Int)} {y : Str × Int} : y ∈ stayL us n to ts ↔ y ∈ ts /\ ¬ Out us n to y.2 := by
 unfold stayL
 rw [List.mem_filter, decide_eq_true_eq]
theorem stayL_len (us : List (Int × Int)) (n to : Int) (ts : List (Str × Int)) : (stayL us n to ts).length <= ts.length := List.length_filter_le _ _
def relay (ts : List (Str × Int)) (to : Int) (ln : List Str) : List (Str × Int) := (ln.filter fun x => decide (to < tOf ts x)).map fun x => (x, tOf ts x)
theorem relay_snoc (ts : List (Str × Int)) (to : Int) (l : List Str) (x : Str) : relay ts to (l ++ [x]) = relay ts to l ++ (if to < tOf ts x then [(x, tOf ts x)] else []) := by
 unfold relay
 rw [List.filter_append, List.map_append]
 congr 1
 by_cases h : to < tOf ts x <;> simp [h]
def overs (ts : List (Str × Int)) (to : Int) (ln : List Str) : List Str := ln.filter fun x => decide (tOf ts x <= to)
theorem overs_snoc (ts : List (Str × Int)) (to : Int) (l : List Str) (x : Str) : overs ts to (l ++ [x]) = overs ts to l ++ (if tOf ts x <= to then [x] else []) := by
 unfold overs
 rw [List.filter_append]
 congr 1
 by_cases h : tOf ts x <= to <;> simp [h]
theorem mem_relay {ts : List (Str × Int)} {to : Int} {l : List Str} {y : Str × Int} : y ∈ relay ts to l ↔ y.1 ∈ l /\ y.2 = tOf ts y.1 /\ to < tOf ts y.1 := by
 unfold relay
 rw [List.mem_map]
 constructor
 . rintro ⟨x, hx, rfl⟩
   obtain ⟨h1, h2⟩ := List.mem_filter.mp hx
   exact ⟨h1, rfl, of_decide_eq_true h2⟩
 . rintro ⟨h1, h2, h3⟩
   exact ⟨y.1, List.mem_filter.mpr ⟨h1, decide_eq_true h3⟩, Prod.ext rfl h2.symm⟩
theorem mem_overs {ts : List (Str × Int)} {to : Int} {l : List Str} {x : Str} : x ∈ overs ts to l ↔ x ∈ l /\ tOf ts x <= to := by
 unfold overs
 rw [List.mem_filter, decide_eq_true_eq]
def sp_passon (C CW : Addr) : Sp := fun vs H Q _ => ∃ (p d m : Addr) (n : Int) (us : List (Int × Int)) (G : Geo) (ts mvs : List (Str × Int)) (to : Int), vs = [.ref p, .int to] /\ Wss C CW H p d m n us G ts mvs /\ Ch us /\ n <= to /\ ts.length <= 900 /\
 ∀ (l : Addr) (H' : Hp) (G' : Geo) (mvs' : List (Str × Int)) (ov : List Str), Mv (m :: G.foot) H H' -> WsAt C CW H' p d m n G' ts mvs' -> GI us to (ts.filter fun y => decide (to < y.2)) G' -> ov.Nodup -> (∀ x, x ∈ ov ↔ ∃ t, (x, t) ∈ ts /\ t <= to) -> (mvs'.map (·.1)).Nodup -> (∀ x v', (x, v') ∈ mvs' ↔ ∃ t v, (x, t) ∈ ts /\ to < t /\ (x, v) ∈ mvs /\ v' = v + (if wAt us t to < wAt us t n then 1 else 0)) -> (∀ b ∈ G'.foot, b ∈ G.foot \/ H b = none) -> H l = none -> LAt H' l (ov.map PyData.str) -> Q (.ref l) H'
theorem ok_passon (T : Txt K mg a) : FnOk P w K mg base CX0 4 a.f_Wheels_pass_on a.fd_Wheels_pass_on ["self", "to"] (sp_passon a.C_Wheels a.C_Wheel) := by
 have n1 := T.na_Wheels_wheels; have n2 := T.na_Wheels_now; have n3 := T.na_Wheels_times; have n4 := T.na_Wheels_moves; have cl := T.cl_Wheels; have clw := T.cl_Wheel
 have m_come_near := T.m_Wheels_come_near; have m_lie_down := T.m_Wheels_lie_down
 have c_come_near := cal_near (P := P) (w := w) (base := base) T
 have c_lie_down := cal_lie (P := P) (w := w) (base := base) T
 have c_Wheel_let_out := cal_letout (P := P) (w := w) (base := base) T
 refine T.F_Wheels_pass_on.ok sc_Wheels_pass_on (fun vs H Q E h => ?_) (fun cdv A outer s H vs Q E hr h => ?_)
 . obtain ⟨_, _, _, _, _, _, _, _, _, rfl, _⟩ := h; rfl
 . obtain ⟨p, d, m, n, us, G, ts, mvs, to, rfl, hw, hch, hnt, hlen, q⟩ := h
   have hi := hw.ws.ins
   obtain ⟨dx, hp⟩ := hw.ws.ex
   obtain ⟨ff1, ff2, ff3, ff4, ff5, ff6⟩ := hw.ws.foots
   obtain ⟨ql, hql⟩ := last_at' hch
   have hgi := hw.gi
   have hul := hgi.len
   have hfarl := hgi.farlen
   refine ⟨_, (pss_cut (ps_set (i := 2) sc_Wheels_pass_on.nd rfl (Or.inl rfl) (pn_meth (pv 0) cl m_come_near c_come_near (hr.mono (by decide)) (pa_cons (pv 1) pa_nil)))
    (pss_cut (ps_for PassesOwn.never rfl (pi_list (pe_fld (pv 0) rfl)) (pg_name (i := 3) sc_Wheels_pass_on.nd rfl (Or.inl rfl))
     (pss_one (ps_expr (pe_bm PySem.F.plainAttrs_list PySem.F.slot_list_extend PySem.F.type_list_extend mt_extend (pv 2) (pa_cons (pn_meth (pv 3) T.cl_Wheel T.m_Wheel_let_out c_Wheel_let_out (hr.mono (by decide)) (pa_cons (pe_fld (pv 0) rfl) (pa_cons (pv 1) pa_nil))) pa_nil)))))
    (pss_cut (ps_set (i := 4) sc_Wheels_pass_on.nd rfl (Or.inl rfl) (pe_lstD pa_nil))
    (pss_cut (ps_for PassesOwn.never rfl (pi_list (pv 2)) (pg_name (i := 5) sc_Wheels_pass_on.nd rfl (Or.inl rfl))
     (pss_one (ps_if (pt_cmpR op_le (pe_dget (hu_of hr) (pe_fld (pv 0) rfl) (pv 5) (fun _ _ => rfl)) (pv 1) (nomark _))
      (pss_cut (ps_expr (pe_bm PySem.F.plainAttrs_dict PySem.F.slot_dict_pop PySem.F.type_dict_pop mt_dpop (pe_fld (pv 0) rfl) (pa_cons (pv 5) pa_nil)))
      (pss_one (ps_expr (pe_bm PySem.F.plainAttrs_list PySem.F.slot_list_append PySem.F.type_list_append mt_append (pv 4) (pa_cons (pv 5) pa_nil)))))
      (pss_cut (ps_dput (hu_of hr) (pe_fld (pv 0) rfl) (pv 5) (pe_op op_add (pe_dget (hu_of hr) (pe_fld (pv 0) rfl) (pv 5) (fun _ _ => rfl)) pe_int) rfl)
      (pss_one (ps_expr (pn_meth (pv 0) cl m_lie_down c_lie_down (hr.mono (by decide)) (pa_cons (pv 5) (pa_cons (pe_dget (hu_of hr) (pe_fld (pv 0) rfl) (pv 5) (fun _ _ => rfl)) (pa_cons (pv 1) pa_nil))))))))))
    (pss_one (ps_ret (pv 4))))))), ?_⟩
   repeat' (walk_at "rd1")
   refine ⟨p, dx, d, m, n, G, us, ql, to, rfl, hp, hw.ws.g, hgi.eu, hch, hql, ff4, by omega, hgi.srt, fun nl H1 keep gone mv1 hg1 efar hn1 hl1 hgone hkeep => ?_⟩
   have hgf : G.f ∈ G.foot := by simp [Geo.foot]
   have mv1' : Mv G.foot H H1 := mv_sub mv1 fun b hb => (List.mem_singleton.mp hb) ▸ hgf
   have hp1 := mv1'.at ff4 hp
   have hi1 : Ins H1 (.ref p) a.C_Wheels [("now", .int n), ("times", .ref d), ("wheels", .ref G.q), ("far", .ref G.f), ("moves", .ref m)] := ⟨p, dx, rfl, hp1⟩
   have nlf : ∀ b ∈ p :: d :: m :: G.foot, b ≠ nl := fun b hb z => hw.ws.alive b hb (z ▸ hn1)
   have nlG : nl ∉ G.foot := fun z => nlf nl (by simp [z]) rfl
   have hpn : p ≠ nl := nlf p (by simp)
   have hqn : G.q ≠ nl := nlf G.q (by simp [Geo.foot])
   repeat' (walk_at "rd1")
   have hln0 : (gone.reverse.map (·.2)).Nodup /\ ∀ x, x ∈ gone.reverse.map (·.2) ↔ ∃ t, (x, t) ∈ ts /\ Out us n to t /\ (wAt us t n < 0 \/ wAt us t n = us.length) := by
    have hmem : ∀ c, c ∈ gone ↔ (c.2, c.1) ∈ ts /\ wAt us c.1 n = us.length /\ Out us n to c.1 := fun c => by
     have hcf := hgi.far c
     rw [efar, List.mem_append] at hcf
     constructor
     . intro hc
       obtain ⟨h1, h2⟩ := hcf.mp (.inr hc)
       refine ⟨h1, h2, fun q hq => ?_, fun _ q hq => ?_⟩
       . rw [h2, List.getElem?_eq_none (Nat.le_refl _)] at hq; cases hq
       . rw [hql] at hq; cases hq; exact hgone c hc
     . rintro ⟨h1, h2, h3⟩
       rcases hcf.mpr ⟨h1, h2⟩ with hc | hc
       . exact absurd (h3.2 h2 ql hql) (hkeep c hc)
       . exact hc
    constructor
    . rw [List.map_reverse]
      refine (List.reverse_perm _).nodup_iff.mpr ?_
      have hpw := hgi.srt
      rw [efar] at hpw
      have hpg := (List.pairwise_append.mp hpw).2.1
      rw [List.Nodup, List.pairwise_map]
      refine hpg.imp_of_mem fun {c d} hc hd hlt e => ?_
      have h1 := ((hmem c).mp hc).1
      have h2 := ((hmem d).mp hd).1
      rw [e] at h1
      have e1 := nd_one hw.nd h1 h2
      have : c = d := Prod.ext e1 e
      rw [this, ltIS_irr] at hlt; cases hlt
    . intro x
      rw [List.mem_map]
      constructor
      . rintro ⟨c, hc, rfl⟩
        obtain ⟨h1, h2, h3⟩ := (hmem c).mp (List.mem_reverse.mp hc)
        exact ⟨c.1, h1, h3, .inr h2⟩
      . rintro ⟨t, h1, h2, h3⟩
        exact ⟨(t, x), List.mem_reverse.mpr ((hmem (t, x)).mpr ⟨h1, h3.resolve_left (by omega), h2⟩), rfl⟩
   have hrel0 : WsRel us n to G.ws G.ws 0 := ⟨rfl, fun j _ => rfl, fun j w h => absurd h (by omega)⟩
   have lnlen : ∀ (ln : List Str), ln.Nodup -> (∀ x ∈ ln, ∃ t, (x, t) ∈ ts) -> ln.length <= 900 := fun ln h1 h2 => by
    have := nd_len (l' := ts.map (·.1)) h1 fun x hx => let ⟨t, ht⟩ := h2 x hx; List.mem_map.mpr ⟨_, ht, rfl⟩
    rw [List.length_map] at this
    omega
   refine forL (xs := G.ws.map fun w => V.ref w.x) (.of (by have := hg1.q; exact this)) (fun i σ' H' => ∃ z, σ' = [some (.ref p), some (.int to), some (.ref nl), z, none, none] /\ Mv (nl :: G.foot) H1 H' /\ ∃ ws' ln, GAt a.C_Wheel H' ⟨G.q, G.f, ws', keep⟩ /\ WsRel us n to G.ws ws' i /\ (∀ b ∈ Geo.foot ⟨G.q, G.f, ws', keep⟩, b ∈ G.foot) /\ LAt H' nl (ln.map PyData.str) /\ ln.Nodup /\ ∀ x, x ∈ ln ↔ ∃ t, (x, t) ∈ ts /\ Out us n to t /\ (wAt us t n < i \/ wAt us t n = us.length)) ⟨_, rfl, Mv.refl, G.ws, _, hg1, hrel0, fun b hb => hb, hl1, hln0.1, hln0.2⟩ ?_ ?_ ?_
   . rintro i σ' H' - ⟨z, -, mv, ws', ln, hg', hrel, -⟩
     have e : ws'.map (fun w => V.ref w.x) = G.ws.map fun w => V.ref w.x := by
      refine List.ext_getElem? fun j => ?_
      rw [List.getElem?_map, List.getElem?_map]
      by_cases c : j < i
      . by_cases c2 : j < G.ws.length
        . obtain ⟨w', e1, e2, _⟩ := hrel.2.2 j _ c (List.getElem?_eq_getElem c2)
          rw [e1, List.getElem?_eq_getElem c2]; simp [e2]
        . rw [List.getElem?_eq_none (by rw [hrel.1]; omega), List.getElem?_eq_none (by omega)]
      . rw [hrel.2.1 j (by omega)]
     rw [<- e]
     exact .of hg'.q
   . rintro i x σ' H' hx ⟨z, rfl, mv, ws', ln, hg', hrel, hfs, hl', hlnd, hlm⟩
     obtain ⟨y, hy, rfl⟩ : ∃ y, G.ws[i]? = some y /\ V.ref y.x = x := by
      rw [List.getElem?_map] at hx
      cases e : G.ws[i]? with
      | none => rw [e] at hx; cases hx
      | some y => rw [e] at hx; exact ⟨y, rfl, Option.some.inj hx⟩
     have hy' : ws'[i]? = some y := by rw [hrel.2.1 i (Nat.le_refl _)]; exact hy
     have hwy := hg'.w y (List.mem_of_getElem? hy')
     have hyi := hgi.wh i y hy
     have hby := hgi.bnd hch.ok hy
     obtain ⟨dxy, hxy⟩ := hwy.i
     have hiy : Ins H' (.ref y.x) a.C_Wheel [("unit", .int y.u), ("slots", .int y.s), ("span", .int (y.u * y.s)), ("mask", .int y.m), ("names_in", .ref y.dn)] := ⟨y.x, dxy, rfl, hxy⟩
     have hpG : p ∉ nl :: G.foot := by simp [hpn, ff4]
     have hi' : Ins H' (.ref p) a.C_Wheels [("now", .int n), ("times", .ref d), ("wheels", .ref G.q), ("far", .ref G.f), ("moves", .ref m)] := ⟨p, dx, rfl, mv.at hpG hp1⟩
     repeat' (walk_at "rd1")
     have hym' := List.mem_of_getElem? hy'
     have hfy : y.foot.Nodup := by
      have := hg'.foot1.2.2
      obtain ⟨e1, _⟩ := split_at hy' y
      rw [show (Geo.ws ⟨G.q, G.f, ws', keep⟩) = ws' from rfl, e1, List.flatMap_append, List.flatMap_cons, List.nodup_append, List.nodup_append] at this
      exact this.2.1.1
     have hyG : ∀ b ∈ y.foot, b ∈ G.foot := fun b hb => hfs b (foot_w (G := ⟨G.q, G.f, ws', keep⟩) hym' b hb)
     have hny : nl ∉ y.foot := fun z => nlG (hyG nl z)
     have hynd := hgi.names_nd hw.nd hy (fun c hc => hc) hyi.nd
     have hyln := lnlen _ hynd fun x hx => by
      obtain ⟨c, hc, hxc⟩ := mem_names.mp hx
      obtain ⟨t, ht, _⟩ := (hyi.mem x c.k).mp ⟨c, hc, rfl, hxc⟩
      exact ⟨t, ht⟩
     have hlnl := lnlen ln hlnd fun x hx => let ⟨t, ht, _⟩ := (hlm x).mp hx; ⟨t, ht⟩
     refine ⟨y.x, y, n, to, rfl, rfl, hwy, hby, hfy, hyi.nd, hyi.mk', fun c hc => ?_, by omega, fun l2 H2 y' vis mv2 hw2 ex ed eu es hm2 hsub hmem hperm hvl hn2 hl2 => ?_⟩
     . obtain ⟨_, _, a3, a4⟩ := hyi.ne c hc
       have := hby.2.2.2
       exact ⟨a3, by omega⟩
     have hvs : ∀ c ∈ vis, c ∈ y.cs := fun c hc => hperm.mem_iff.mp (List.mem_append_left _ hc)
     have hvk : (vis.map (·.k)).Nodup := by
      have := ((hperm.map (·.k)).nodup_iff).mpr hyi.nd
      rw [List.map_append, List.nodup_append] at this
      exact this.1
     have hvnd := hgi.names_nd hw.nd hy hvs hvk
     have hvm : ∀ x, x ∈ namesOf vis ↔ ∃ t, (x, t) ∈ ts /\ Out us n to t /\ wAt us t n = i := fun x => by
      have hil : i < us.length := by have := (List.getElem?_eq_some_iff.mp hy).1; omega
      rw [mem_names]
      constructor
      . rintro ⟨c, hc, hxc⟩
        obtain ⟨t, ht, ht2, ht3⟩ := (hyi.mem x c.k).mp ⟨c, hvs c hc, rfl, hxc⟩
        refine ⟨t, ht, (out_slot (to := to) (by rw [ht2]; exact hgi.at hy) hby (by omega)).mpr ?_, ht2⟩
        rw [ht3]; exact hvl c hc
      . rintro ⟨t, ht, ho, ht2⟩
        obtain ⟨c, hc, hk, hxc⟩ := (hyi.mem x (t / y.u % y.s)).mpr ⟨t, ht, ht2, rfl⟩
        have hle := (out_slot (to := to) (by rw [ht2]; exact hgi.at hy) hby (by omega)).mp ho
        rw [<- hk] at hle
        rcases List.mem_append.mp (hperm.mem_iff.mpr hc) with h | h
        . exact ⟨c, h, hxc⟩
        . exact absurd hle ((hmem c).mp h).2
     have hfy' : y'.foot.Sublist y.foot := by
      unfold Wh.foot
      rw [ex, ed]
      exact ((hsub.map _).cons₂ _).cons₂ _
     have hnl2 := hl'.mv mv2 hny
     have hlv := lnlen _ hvnd fun x hx => let ⟨t, ht, _⟩ := (hvm x).mp hx; ⟨t, ht⟩
     repeat' (walk_at "rd1")
     refine r_extL hnl2 hl2 (by rw [List.length_map, List.length_map]; omega) (fun H3 mv3 hl3 => ?_)
     obtain ⟨hg2, hft2⟩ := hg'.set (w' := y') hy' mv2 hw2 ex (hfy.sublist hfy') fun b hb => .inl (hfy'.subset hb)
     have hfs2 : ∀ b ∈ Geo.foot ⟨G.q, G.f, ws'.set i y', keep⟩, b ∈ G.foot := fun b hb => hfs b (foot_set (G := ⟨G.q, G.f, ws', keep⟩) (w' := y') hy' (fun b hb => hfy'.subset hb) b hb)
     have hg3 := hg2.mv mv3 fun b hb => by
      have : b ≠ nl := fun z => nlG (z ▸ hfs2 b hb)
      simpa using this
     refine ⟨_, rfl, Mv.step (Mv.step mv mv2 fun b hb => .inl (List.mem_cons_of_mem _ (hyG b hb))) mv3 fun b hb => .inl (by rw [List.mem_singleton.mp hb]; exact List.mem_cons_self), ws'.set i y', ln ++ namesOf vis, hg3, ⟨by rw [List.length_set]; exact hrel.1, fun j hj => ?_, fun j w0 hj hw0 => ?_⟩, hfs2, by rw [List.map_append]; exact hl3, ?_, fun x => ?_⟩
     . rw [List.getElem?_set_ne (by omega)]; exact hrel.2.1 j (by omega)
     . by_cases e : j = i
       . subst e
         rw [hy] at hw0
         cases hw0
         exact ⟨y', by rw [List.getElem?_set_self (List.getElem?_eq_some_iff.mp hy').1], ex, ed, eu, es, hm2, hsub, hmem⟩
       . rw [List.getElem?_set_ne (fun z => e z.symm)]
         exact hrel.2.2 j w0 (by omega) hw0
     . rw [List.nodup_append]
       refine ⟨hlnd, hvnd, fun x hx y0 hy0 e => ?_⟩
       subst e
       obtain ⟨t, ht, _, h1⟩ := (hlm x).mp hx
       obtain ⟨t', ht', _, h2⟩ := (hvm x).mp hy0
       rw [nd_one hw.nd ht ht'] at h1
       have hil : i < us.length := by have := (List.getElem?_eq_some_iff.mp hy).1; omega
       omega
     . rw [List.mem_append, hlm x, hvm x]
       constructor
       . rintro (⟨t, h1, h2, h3⟩ | ⟨t, h1, h2, h3⟩)
         . exact ⟨t, h1, h2, by omega⟩
         . exact ⟨t, h1, h2, by omega⟩
       . rintro ⟨t, h1, h2, h3⟩
         by_cases e : wAt us t n = i
         . exact .inr ⟨t, h1, h2, e⟩
         . exact .inl ⟨t, h1, h2, by omega⟩
   . rintro σ' H' ⟨z, rfl, mv, ws', ln, hg', hrel, hfs, hl', hlnd, hlm⟩
     rw [List.length_map] at hrel hlm
     have hlm2 : ∀ x, x ∈ ln ↔ ∃ t, (x, t) ∈ ts /\ Out us n to t := fun x => (hlm x).trans ⟨fun ⟨t, h1, h2, _⟩ => ⟨t, h1, h2⟩, fun ⟨t, h1, h2⟩ => ⟨t, h1, h2, by have := wAt_le us t n; omega⟩⟩
     have hgi0 : GI us to (stayL us n to ts) ⟨G.q, G.f, ws', keep⟩ := gi_stay hgi hch (fun y => mem_stayL) hrel efar hql hgone hkeep
     have hlnl := lnlen ln hlnd fun x hx => let ⟨t, ht, _⟩ := (hlm2 x).mp hx; ⟨t, ht⟩
     have mvA : Mv G.foot H H' := Mv.step mv1' mv fun b hb => by
      rcases List.mem_cons.mp hb with rfl | hb
      . exact .inr hn1
      . exact .inl hb
     have hwA : WsAt a.C_Wheels a.C_Wheel H' p d m n ⟨G.q, G.f, ws', keep⟩ ts mvs := hw.ws.geo mvA hg' rfl rfl fun b hb => .inl (hfs b hb)
     have hxt : ∀ x ∈ ln, (x, tOf ts x) ∈ ts /\ Out us n to (tOf ts x) := fun x hx => by
      obtain ⟨t, h1, h2⟩ := (hlm2 x).mp hx
      rw [tOf_eq hw.nd h1]; exact ⟨h1, h2⟩
     repeat' (walk_at "rd1")
     rename_i ov H2 sm2 hn2 hov2
     have hwB := hwA.keeps sm2
     have hnlB := hl'.keeps sm2
     have hovG : ∀ b ∈ p :: d :: m :: G.foot, b ≠ ov := fun b hb z => by
      have : H b ≠ none := hw.ws.alive b hb
      exact this (mvA.none (z ▸ hn2))
     have hnlov : nl ≠ ov := hl'.ne hn2
     have hnlS : nl ∉ ov :: m :: G.foot := by
      simp only [List.mem_cons, not_or]
      exact ⟨hnlov, Ne.symm (nlf m (by simp)), nlG⟩
     have e0 : ∀ x v', (x, v') ∈ mvs ↔ ∃ v, (x, v) ∈ mvs /\ ¬ (x ∈ ln.take 0 /\ tOf ts x <= to) /\ v' = v + (if x ∈ ln.take 0 then 1 else 0) := fun x v' => by simp
     have htk : ∀ {i : Nat} {x : Str}, ln[i]? = some x -> ln.take (i + 1) = ln.take i ++ [x] := fun {i x} h => by rw [List.take_add_one, h]; rfl
     refine forDB (Hb := H2) (cs := ln) (gd := PyData.str) hnlB.dv (fun i σ' H'' => ∃ z5, σ' = [some (.ref p), some (.int to), some (.ref nl), z, some (.ref ov), z5] /\ Mv (ov :: m :: G.foot) H2 H'' /\ ∃ (G' : Geo) (mvs' : List (Str × Int)), WsAt a.C_Wheels a.C_Wheel H'' p d m n G' ts mvs' /\ GI us to (stayL us n to ts ++ relay ts to (ln.take i)) G' /\ (∀ b ∈ G'.foot, b ∈ G.foot \/ H2 b = none) /\ LAt H'' ov ((overs ts to (ln.take i)).map PyData.str) /\ (mvs'.map (·.1)).Nodup /\ ∀ x v', (x, v') ∈ mvs' ↔ ∃ v, (x, v) ∈ mvs /\ ¬ (x ∈ ln.take i /\ tOf ts x <= to) /\ v' = v + (if x ∈ ln.take i then 1 else 0)) ⟨_, rfl, Mv.refl, ⟨G.q, G.f, ws', keep⟩, mvs, hwB, hgi0.ext (fun y => by simp [relay]), fun b hb => .inl (hfs b hb), hov2, hw.mnd, e0⟩ (fun i σ' H'' _ ⟨_, _, mv'', _⟩ a' xs e hx => by cases e; exact mv''.sq hnlS hx) ?_ ?_
     . rintro i x v σ' H3 hx ⟨z5, rfl, mv3, G', mvs', hw3, hgi3, hfs3, hov3, hmn3, hmm3⟩ hdx _
       obtain rfl := (hdx rfl mv3.tp).str_inv
       have hxl := List.mem_of_getElem? hx
       obtain ⟨hxt1, hxo⟩ := hxt x hxl
       have hlk := tm_lkp hw.nd hxt1
       have hi3 := hw3.ins
       have hd3 := hw3.dd
       have hm3 := hw3.mm
       have hxno : x ∉ ln.take i := fun z => by
        obtain ⟨j, hj, e⟩ := List.getElem_of_mem z
        have hj2 : j < i := by rw [List.length_take] at hj; omega
        have hil := (List.getElem?_eq_some_iff.mp hx).1
        rw [List.getElem_take] at e
        have := List.pairwise_iff_getElem.mp hlnd j i (by omega) hil hj2
        exact this (e.trans (List.getElem?_eq_some_iff.mp hx).2.symm)
       have hxm : x ∈ mvs.map (·.1) := (hw.mem x).mpr (List.mem_map.mpr ⟨_, hxt1, rfl⟩)
       obtain ⟨v0, hv0⟩ : ∃ v0, (x, v0) ∈ mvs := by obtain ⟨y, hy, e⟩ := List.mem_map.mp hxm; exact ⟨y.2, by rw [<- e]; exact hy⟩
       have hv0' : (x, v0) ∈ mvs' := (hmm3 x v0).mpr ⟨v0, hv0, fun z => hxno z.1, by rw [if_neg hxno]; omega⟩
       have hlkm := tm_lkp hmn3 hv0'
       have hml : mvs'.length <= 900 := by
        have := nd_len (l' := ts.map (·.1)) hmn3 fun y hy => by
         obtain ⟨⟨_, v1⟩, hv1, rfl⟩ := List.mem_map.mp hy
         obtain ⟨v2, h2, _⟩ := (hmm3 _ v1).mp hv1
         exact (hw.mem _).mp (List.mem_map.mpr ⟨_, h2, rfl⟩)
        rw [List.length_map, List.length_map] at this
        omega
       have hmlen := tmD_len mvs'
       have hmov : m ≠ ov := hovG m (by simp)
       have hovS : ∀ b ∈ p :: d :: m :: G'.foot, b ≠ ov := fun b hb z => by
        have hov' : H2 ov ≠ none := by obtain ⟨xs, e, _⟩ := hov2; rw [e]; simp
        rcases List.mem_cons.mp hb with h | hb
        . exact hovG p (by simp) (h ▸ z)
        . rcases List.mem_cons.mp hb with h | hb
          . exact hovG d (by simp) (h ▸ z)
          . rcases List.mem_cons.mp hb with h | hb
            . exact hmov (h ▸ z)
            . rcases hfs3 b hb with r | r
              . exact hovG b (by simp [r]) z
              . exact hov' (z ▸ r)
       have hovl : ((overs ts to (ln.take i)).map PyData.str).length <= 900 := by
        rw [List.length_map]
        have h1 : (overs ts to (ln.take i)).length <= (ln.take i).length := List.length_filter_le _ _
        rw [List.length_take] at h1
        omega
       repeat' (walk_at "rd1")
       . rename_i hle
         refine r_tyD hm3 ?_
         repeat' (walk_at "rd1")
         refine r_dpop hm3 hlkm (fun v4 H4 mv4 hm4 => ?_)
         rw [drop_tmD] at hm4
         have hw4 := hw3.setM mv4 hm4
         have hov4 := hov3.mv mv4 (by simpa using Ne.symm hmov)
         repeat' (walk_at "rd1")
         rename_i H5 mv5 hov5
         have hw5 := hw4.mv mv5 fun b hb => by simpa using hovS b hb
         have hnlt : ¬ to < tOf ts x := by omega
         refine ⟨_, rfl, Mv.step (Mv.step mv3 mv4 fun b hb => .inl (by rw [List.mem_singleton.mp hb]; simp)) mv5 fun b hb => .inl (by rw [List.mem_singleton.mp hb]; simp), G', dropT mvs' x, hw5, ?_, hfs3, ?_, dropT_nd hmn3, fun y v' => ?_⟩
         . rw [htk hx, relay_snoc, if_neg hnlt, List.append_nil]; exact hgi3
         . rw [htk hx, overs_snoc, if_pos hle, List.map_append]; exact hov5
         . rw [mem_dropT, hmm3 y v', htk hx]
           constructor
           . rintro ⟨⟨v, h1, h2, h3⟩, h4⟩
             have h4 : y ≠ x := h4
             refine ⟨v, h1, fun z => h2 ⟨?_, z.2⟩, ?_⟩
             . rcases List.mem_append.mp z.1 with h | h
               . exact h
               . exact absurd (List.mem_singleton.mp h) h4
             . rw [h3]
               congr 1
               by_cases c : y ∈ ln.take i
               . rw [if_pos c, if_pos (List.mem_append_left _ c)]
               . rw [if_neg c, if_neg (fun z => by rcases List.mem_append.mp z with h | h; exact c h; exact h4 (List.mem_singleton.mp h))]
           . rintro ⟨v, h1, h2, h3⟩
             have h4 : y ≠ x := fun z => h2 ⟨by rw [z]; simp, by rw [z]; exact hle⟩
             refine ⟨⟨v, h1, fun z => h2 ⟨List.mem_append_left _ z.1, z.2⟩, ?_⟩, h4⟩
             rw [h3]
             congr 1
             by_cases c : y ∈ ln.take i
             . rw [if_pos c, if_pos (List.mem_append_left _ c)]
             . rw [if_neg c, if_neg (fun z => by rcases List.mem_append.mp z with h | h; exact c h; exact h4 (List.mem_singleton.mp h))]
       . rename_i hle H4 mv4 hm4
         have hlt : to < tOf ts x := by omega
         have hxm' : x ∈ mvs'.map (·.1) := List.mem_map.mpr ⟨_, hv0', rfl⟩
         rw [setT_put hxm'] at hm4
         have hw4 := hw3.setM mv4 hm4
         have hi4 := hw4.ins
         have hd4 := hw4.dd
         repeat' (walk_at "rd1")
         obtain ⟨dx4, hp4⟩ := hw4.ex
         have hxs : x ∉ (stayL us n to ts ++ relay ts to (ln.take i)).map (·.1) := fun z => by
          rw [List.map_append] at z
          rcases List.mem_append.mp z with z | z
          . obtain ⟨y, hy, e⟩ := List.mem_map.mp z
            obtain ⟨h1, h2⟩ := mem_stayL.mp hy
            have e : y.1 = x := e
            rw [<- tOf_eq hw.nd (show (y.1, y.2) ∈ ts from h1), e] at h2
            exact h2 hxo
          . obtain ⟨y, hy, e⟩ := List.mem_map.mp z
            have e : y.1 = x := e
            exact hxno (e ▸ (mem_relay.mp hy).1)
         have hsl : (stayL us n to ts ++ relay ts to (ln.take i)).length <= 2000 := by
          rw [List.length_append]
          have h1 := stayL_len us n to ts
          have h2 : (relay ts to (ln.take i)).length <= (ln.take i).length := by
           unfold relay
           rw [List.length_map]
           exact List.length_filter_le _ _
          rw [List.length_take] at h2
          omega
         refine ⟨p, dx4, d, m, n, G', us, _, x, _, to, rfl, hp4, hw4.g, hgi3, hch.ok, hw4.foots.2.2.2.1, hxs, hsl, fun H5 G5 mv5 hg5 hgi5 e1 e2 hs5 => ?_⟩
         have hw5 := hw4.geo mv5 hg5 e1 e2 hs5
         have hovG' : ov ∉ G'.foot := fun z => hovS ov (by simp [z]) rfl
         have hov5 := (hov3.mv mv4 (by simpa using Ne.symm hmov)).mv mv5 hovG'
         have hnle : ¬ tOf ts x <= to := by omega
         refine ⟨_, rfl, Mv.step (Mv.step mv3 mv4 fun b hb => .inl (by rw [List.mem_singleton.mp hb]; simp)) mv5 fun b hb => ?_, G5, setT mvs' x (v0 + 1), hw5, ?_, fun b hb => ?_, ?_, by rw [setT_names]; exact hmn3, fun y v' => ?_⟩
         . rcases hfs3 b hb with r | r
           . exact .inl (by simp [r])
           . exact .inr r
         . rw [htk hx, relay_snoc, if_pos hlt, <- List.append_assoc]; exact hgi5
         . rcases hs5 b hb with r | r
           . exact hfs3 b r
           . exact .inr (mv3.none (mv4.none r))
         . rw [htk hx, overs_snoc, if_neg hnle, List.append_nil]; exact hov5
         . rw [setT_mem hxm', htk hx]
           by_cases c0 : y = x
           . subst c0
             constructor
             . rintro (⟨_, h⟩ | ⟨h, _⟩)
               . have h : v' = v0 + 1 := h
                 exact ⟨v0, hv0, fun z => hnle z.2, by rw [h, if_pos (by simp)]⟩
               . exact absurd rfl h
             . rintro ⟨v, h1, _, h3⟩
               rw [if_pos (by simp)] at h3
               have : v = v0 := nd_one hw.mnd h1 hv0
               exact .inl ⟨rfl, by show v' = v0 + 1; omega⟩
           . have hiff : y ∈ ln.take i ++ [x] ↔ y ∈ ln.take i := ⟨fun z => by rcases List.mem_append.mp z with h | h; exact h; exact absurd (List.mem_singleton.mp h) c0, fun z => List.mem_append_left _ z⟩
             constructor
             . rintro (⟨h, _⟩ | ⟨_, h⟩)
               . exact absurd h c0
               . obtain ⟨v, h1, h2, h3⟩ := (hmm3 y v').mp h
                 refine ⟨v, h1, fun z => h2 ⟨hiff.mp z.1, z.2⟩, ?_⟩
                 rw [h3]
                 congr 1
                 by_cases c : y ∈ ln.take i
                 . rw [if_pos c, if_pos (hiff.mpr c)]
                 . rw [if_neg c, if_neg (fun z => c (hiff.mp z))]
             . rintro ⟨v, h1, h2, h3⟩
               refine .inr ⟨c0, (hmm3 y v').mpr ⟨v, h1, fun z => h2 ⟨hiff.mpr z.1, z.2⟩, ?_⟩⟩
               rw [h3]
               congr 1
               by_cases c : y ∈ ln.take i
               . rw [if_pos c, if_pos (hiff.mpr c)]
               . rw [if_neg c, if_neg (fun z => c (hiff.mp z))]
     . rintro σ' H3 ⟨z5, rfl, mv3, G', mvs', hw3, hgi3, hfs3, hov3, hmn3, hmm3⟩
       rw [List.take_length] at hgi3 hov3 hmm3
       repeat' (walk_at "rd1")
       refine q ov H3 G' mvs' (overs ts to ln) ?_ hw3 (hgi3.ext fun y => ?_) (hlnd.sublist List.filter_sublist) (fun x => ?_) hmn3 (fun x v' => ?_) (fun b hb => ?_) (mvA.none hn2) hov3
       . exact Mv.step (Mv.step (mv_sub mvA fun b hb => List.mem_cons_of_mem _ hb) (sm2.mv (S := [])) fun b hb => nomatch hb) mv3 fun b hb => by
          rcases List.mem_cons.mp hb with rfl | hb
          . exact .inr (mvA.none hn2)
          . exact .inl hb
       . rw [List.mem_append, mem_stayL, mem_relay, List.mem_filter, decide_eq_true_eq]
         constructor
         . rintro (⟨h1, h2⟩ | ⟨h1, h2, h3⟩)
           . exact ⟨h1, (stay hch h2).1⟩
           . obtain ⟨h4, _⟩ := hxt y.1 h1
             rw [<- h2] at h4 h3
             exact ⟨h4, h3⟩
         . rintro ⟨h1, h2⟩
           by_cases ho : Out us n to y.2
           . have h3 : y.1 ∈ ln := (hlm2 y.1).mpr ⟨y.2, h1, ho⟩
             have h4 := tOf_eq hw.nd (show (y.1, y.2) ∈ ts from h1)
             exact .inr ⟨h3, h4.symm, by rw [h4]; exact h2⟩
           . exact .inl ⟨h1, ho⟩
       . rw [mem_overs]
         constructor
         . rintro ⟨h1, h2⟩
           exact ⟨_, (hxt x h1).1, h2⟩
         . rintro ⟨t, h1, h2⟩
           rw [tOf_eq hw.nd h1]
           exact ⟨(hlm2 x).mpr ⟨t, h1, out_le hch h2⟩, h2⟩
       . rw [hmm3 x v']
         constructor
         . rintro ⟨v, h1, h2, h3⟩
           obtain ⟨⟨_, t⟩, ht, e⟩ := List.mem_map.mp ((hw.mem x).mp (List.mem_map.mpr ⟨_, h1, rfl⟩))
           have e : _ = x := e
           subst e
           have hto := tOf_eq hw.nd ht
           have hlt : to < t := by
            by_cases c : t <= to
            . exact absurd ⟨(hlm2 _).mpr ⟨t, ht, out_le hch c⟩, by rw [hto]; exact c⟩ h2
            . omega
           refine ⟨t, v, ht, hlt, h1, ?_⟩
           rw [h3]
           congr 1
           by_cases ho : Out us n to t
           . rw [if_pos ((hlm2 _).mpr ⟨t, ht, ho⟩), if_pos (down hch hnt ho hlt)]
           . have := (stay hch ho).2
             rw [if_neg (fun z => ho (by have := (hxt _ z).2; rwa [hto] at this)), if_neg (by omega)]
         . rintro ⟨t, v, ht, hlt, h1, h3⟩
           have hto := tOf_eq hw.nd ht
           refine ⟨v, h1, fun z => by have := z.2; omega, ?_⟩
           rw [h3]
           congr 1
           by_cases ho : Out us n to t
           . rw [if_pos ((hlm2 _).mpr ⟨t, ht, ho⟩), if_pos (down hch hnt ho hlt)]
           . have := (stay hch ho).2
             rw [if_neg (by omega : ¬ wAt us t to < wAt us t n), if_neg (fun z => ho (by have := (hxt _ z).2; rwa [hto] at this))]
       . rcases hfs3 b hb with r | r
         . exact .inl r
         . exact .inr (mvA.none (sm2.none r))
theorem cal_passon (T : Txt K mg a) : Cal P w K mg base 4 a.f_Wheels_pass_on ["self", "to"] [] (sp_passon a.C_Wheels a.C_Wheel) :=
 ⟨⟨_, _, ok_passon T, T.F_Wheels_pass_on.binds fun _ _ _ _ _ _ => .all fun us hl => match us, hl with | [_, _], _ => rfl, .nil⟩⟩
def swp (x : Str × Int) : Int × Str := (x.2, x.1)
def Srt (ks : List (Int × Str)) : Prop := ks.Pairwise fun c d => ltIS d c = false
theorem fil_all {α : Type} (l : List α) : l.filter (fun _ => true) = l := List.filter_eq_self.mpr fun _ _ => rfl
theorem nd_take {α β : Type} {f : α -> β} {l : List α} {j : Nat} {c : α} (h : (l.map f).Nodup) (hc : l[j]? = some c) : f c ∉ (l.take j).map f := by
 intro hm
 obtain ⟨d, hd, e⟩ := List.mem_map.mp hm
 obtain ⟨i, hi, rfl⟩ := List.getElem_of_mem hd
 have hij : i < j := by rw [List.length_take] at hi; omega
 have hjl : j < l.length := (List.getElem?_eq_some_iff.mp hc).1
 rw [List.Nodup, List.pairwise_map] at h
 have := List.pairwise_iff_getElem.mp h i j (by omega) hjl hij
 rw [List.getElem_take] at e
 have hc' : l[j] = c := Option.some.inj ((List.getElem?_eq_getElem hjl).symm.trans hc)
 rw [hc'] at this
 exact this e
theorem take_snoc {α : Type} {l : List α} {j : Nat} {c : α} (h : l[j]? = some c) : l.take (j + 1) = l.take j ++ [c] := by
 rw [List.take_add_one, h]; rfl
def Moved (us : List (Int × Int)) (n t : Int) (ts mvs mvs' : List (Str × Int)) : Prop := ∀ x v', (x, v') ∈ mvs' ↔ ∃ u v, (x, u) ∈ ts /\ t < u /\ (x, v) ∈ mvs /\ v' = v + (if wAt us u t < wAt us u n then 1 else 0)
def sp_due (C CW cP : Addr) : Sp := fun vs H Q E => ∃ (p d m : Addr) (n : Int) (us : List (Int × Int)) (G : Geo) (ts mvs : List (Str × Int)) (t : Int), vs = [.ref p, .int t] /\ Wss C CW H p d m n us G ts mvs /\ Ch us /\ ts.length < 60 /\ (t < n -> E (.ref cP) none H) /\
 (n <= t -> ∀ (l : Addr) (H' : Hp) (G' : Geo) (mvs' : List (Str × Int)) (ks : List (Int × Str)), Mv (p :: d :: m :: G.foot) H H' -> H l = none -> l ∉ p :: d :: m :: G'.foot -> ks.Perm ((ts.filter fun y => decide (y.2 <= t)).map swp) -> Srt ks -> LAt H' l (ks.map pairD) -> Wss C CW H' p d m t us G' (ts.filter fun y => decide (t < y.2)) mvs' -> Moved us n t ts mvs mvs' -> (∀ b ∈ G'.foot, b ∈ G.foot \/ H b = none) -> Q (.ref l) H')
theorem ok_due (T : Txt K mg a) : FnOk P w K mg base (CXD P w) 5 a.f_Waits_due a.fd_Waits_due ["self", "to"] (sp_due a.C_Wheels a.C_Wheel a.C_Past) := by
 have n1 := T.na_Wheels_now; have n2 := T.na_Wheels_times; have cl := T.cl_Wheels
 have m_pass_on := T.m_Wheels_pass_on
 have c_pass_on := cal_passon (P := P) (w := w) (base := base) T
 refine T.F_Waits_due.okD sc_Waits_due (fun vs H Q E h => ?_) (fun cdv A outer s H vs Q E hr h => ?_)
 . obtain ⟨_, _, _, _, _, _, _, _, _, rfl, _⟩ := h; rfl
 . obtain ⟨p, d, m, n, us, G, ts, mvs, t, rfl, hw, hch, hl, qP, q⟩ := h
   have hi := hw.ws.ins; have hd := hw.ws.dd
   refine ⟨_, (pss_cut (ps_if (pt_cmpR op_lt (pv 1) (pe_fld (pv 0) rfl) (nomark _))
    (pss_one (ps_raiseP raiseD rfl (pa_cons pe_str pa_nil) rfl T.mg_Past T.x_Past rfl))
    pss_nil)
    (pss_cut (ps_set (i := 2) sc_Waits_due.nd rfl (Or.inl rfl) (pe_callB call_sortP rfl T.no_sorted PyProof.Rows.boot_sorted (pa_cons (pe_lc (T := ["name"]) (M := ["self", "to", "told", "time", "04"]) (lcn (defScope s_Waits_due) ["self", "to", "told", "time", "name"] rfl rfl (by decide +kernel)) rfl (pi_list (pn_meth (pv 0) cl m_pass_on c_pass_on (hr.mono (by decide)) (pa_cons (pv 1) pa_nil))) (fun _ _ _ _ _ => (pg_name (i := 0) (show List.Nodup (["name", "self", "to", "told", "time", "04"] : List Str) by decide +kernel) rfl (Or.inl rfl))) (gown_name (by decide)) (fun _ _ _ _ _ => pif_nil) (fun _ _ _ _ _ => (pe_tupD (pa_cons (pe_dget (hu_of hr) (pe_fldK (K := K) rfl (pv 1) rfl) (pv 0) (fun _ _ => rfl)) (pa_cons (pv 0) pa_nil))))) pa_nil)))
    (pss_cut (ps_fld (pv 0) (pv 1) rfl)
    (pss_cut (PS.nox (ps_for PassesOwn.never rfl (pi_list (pv 2)) (pg_tup (n := 2) rfl (pgs_cons (pg_name (i := 3) sc_Waits_due.nd rfl (Or.inl rfl)) (pgs_cons (pg_name (i := 4) sc_Waits_due.nd rfl (Or.inl rfl)) pgs_nil)))
     (pss_one (ps_expr (pe_bm PySem.F.plainAttrs_dict PySem.F.slot_dict_pop PySem.F.type_dict_pop mt_dpop (pe_fld (pv 0) rfl) (pa_cons (pv 4) pa_nil))))))
    (pss_one (ps_ret (pv 2))))))), ?_⟩
   repeat' (walk_at "rd1")
   . rename_i hb
     exact qP hb
   rename_i hnt
   replace q := q (by omega)
   refine ⟨p, d, m, n, us, G, ts, mvs, t, rfl, hw, hch, by omega, by omega, fun q0 H1 G1 mvs1 ov mv1 hw1 hgi1 hovn hovm hmn1 hmm1 hfs1 hn1 hq0 => ?_⟩
   have hd1 := hw1.dd
   have hi1 := hw1.ins
   have hxt : ∀ x ∈ ov, (x, tOf ts x) ∈ ts /\ tOf ts x <= t := fun x hx => by
    obtain ⟨u, h1, h2⟩ := (hovm x).mp hx
    rw [tOf_eq hw.nd h1]; exact ⟨h1, h2⟩
   have hovl : ov.length <= ts.length := by
    have := nd_len (l' := ts.map (·.1)) hovn fun x hx => List.mem_map.mpr ⟨_, (hxt x hx).1, rfl⟩
    rwa [List.length_map] at this
   refine r_lc (cs := ov) (gd := fun x => .str x) (fun _ => true) (fun x => pairD (tOf ts x, x)) hq0.dv (by omega) (fun _ => rfl) (fun y x H2 N hx sm2 hy yes no => ?_) (fun q1 H2 sm2 hn2 hq1 => ?_)
   . have hlk := tm_lkp hw.nd (hxt x hx).1
     obtain rfl := hy.str_inv
     have hi2 := hi1.keeps sm2
     have hd2 := hd1.keeps sm2
     repeat' (walk_at "rd1")
     refine r_lct (fun hb => ?_) (fun hb => by cases hb)
     repeat' (walk_at "rd1")
     exact yes rfl _ _ (by walk_at "same") (by walk_at "dat")
   rw [fil_all] at hq1
   have hq1' : Dv H2 (.ref q1) (.list ((ov.map fun x => (tOf ts x, x)).map pairD)) := by
    have := hq1.dv
    rw [List.map_map]; exact this
   have hpm : (ov.map fun x => (tOf ts x, x)).Perm ((ts.filter fun y => decide (y.2 <= t)).map swp) := by
    have h1 : (ov.map fun x => (tOf ts x, x)).Nodup := by
     rw [List.Nodup, List.pairwise_map]
     exact hovn.imp fun {x y} hxy e => hxy (Prod.mk.inj e).2
    have h2 : ((ts.filter fun y => decide (y.2 <= t)).map swp).Nodup := by
     rw [List.Nodup, List.pairwise_map]
     have h3 : (ts.filter fun y => decide (y.2 <= t)).Pairwise fun a b => a.1 ≠ b.1 := by
      have := hw.nd
      rw [List.Nodup, List.pairwise_map] at this
      exact this.sublist List.filter_sublist
     exact h3.imp fun {x y} hxy e => hxy (Prod.mk.inj e).2
    refine (List.perm_ext_iff_of_nodup h1 h2).mpr fun c => ?_
    rw [List.mem_map, List.mem_map]
    constructor
    . rintro ⟨x, hx, rfl⟩
      obtain ⟨a1, a2⟩ := hxt x hx
      exact ⟨(x, tOf ts x), List.mem_filter.mpr ⟨a1, decide_eq_true a2⟩, rfl⟩
    . rintro ⟨y, hy, rfl⟩
      obtain ⟨a1, a2⟩ := List.mem_filter.mp hy
      have a2 := of_decide_eq_true a2
      refine ⟨y.1, (hovm y.1).mpr ⟨y.2, a1, a2⟩, ?_⟩
      show (tOf ts y.1, y.1) = (y.2, y.1)
      rw [tOf_eq hw.nd (show (y.1, y.2) ∈ ts from a1)]
   repeat' (walk_at "rd1")
   refine r_sortP hq1' (by rw [List.length_map]; omega) (fun q2 H3 ks sm3 hn3 hp hs hq2 => ?_)
   repeat' (walk_at "rd1")
   have sm13 : Same H1 H3 := sm2.trans sm3
   have hw3 := hw1.keeps sm13
   obtain ⟨dx, hp3⟩ := hw3.ex
   obtain ⟨f1, f2, f3, f4, f5, f6⟩ := hw3.foots
   have hq2al : ∀ b ∈ p :: d :: m :: G1.foot, b ≠ q2 := fun b hb z => hw1.alive b hb (z ▸ sm2.none hn3)
   have hins : H3 p = some (.ins a.C_Wheels dx [("now", .int n), ("times", .ref d), ("wheels", .ref G1.q), ("far", .ref G1.f), ("moves", .ref m)]) := hp3
   clear hp3
   repeat' (walk_at "rd1")
   have mv4 : Mv [p] H3 (upd H3 p (.ins a.C_Wheels dx [("now", .int t), ("times", .ref d), ("wheels", .ref G1.q), ("far", .ref G1.f), ("moves", .ref m)])) := .of_upd hins (by intro _ z; cases z)
   have hp4 : upd H3 p (.ins a.C_Wheels dx [("now", .int t), ("times", .ref d), ("wheels", .ref G1.q), ("far", .ref G1.f), ("moves", .ref m)]) p = some (.ins a.C_Wheels dx (wsF t d G1.q G1.f m)) := upd_same
   generalize upd H3 p (.ins a.C_Wheels dx [("now", .int t), ("times", .ref d), ("wheels", .ref G1.q), ("far", .ref G1.f), ("moves", .ref m)]) = H4 at *
   have hw4 : WsAt a.C_Wheels a.C_Wheel H4 p d m t G1 ts mvs1 := ⟨⟨dx, hp4⟩, hw3.dd.mv mv4 (by simpa using Ne.symm f1), hw3.mm.mv mv4 (by simpa using Ne.symm f2), hw3.g.mv mv4 (fun b hb => by simpa using fun z : b = p => f4 (z ▸ hb)), hw3.nd⟩
   have hq4 : LAt H4 q2 (ks.map pairD) := hq2.mv mv4 (by simpa using Ne.symm (hq2al p (by simp)))
   have hqd : q2 ≠ d := Ne.symm (hq2al d (by simp))
   have hp' : ks.Perm ((ts.filter fun y => decide (y.2 <= t)).map swp) := hp.trans hpm
   have hkn : (ks.map (·.2)).Nodup := by
    have h1 : (ks.map (·.2)).Perm (((ts.filter fun x => decide (x.2 <= t)).map swp).map (·.2)) := hp'.map _
    refine h1.nodup_iff.mpr ?_
    rw [List.map_map]
    exact hw.nd.sublist (List.filter_sublist.map _)
   have hkm : ∀ k ∈ ks, ∃ x ∈ ts, x.2 <= t /\ k = swp x := fun k hk => by
    obtain ⟨x, hx, rfl⟩ := List.mem_map.mp (hp'.mem_iff.mp hk)
    exact ⟨x, (List.mem_filter.mp hx).1, of_decide_eq_true (List.mem_filter.mp hx).2, rfl⟩
   refine forDB (Hb := H4) (cs := ks) (gd := pairD) hq4.dv (fun j σ' H' => ∃ z3 z4, σ' = [some (.ref p), some (.int t), some (.ref q2), z3, z4] /\ Mv [d] H4 H' /\ DAt H' d (tmD (ts.filter fun x => !((ks.take j).map (·.2)).contains x.1))) ⟨_, _, rfl, Mv.refl, by show DAt H4 d (tmD (ts.filter fun _ => true)); rw [fil_all]; exact hw4.dd⟩ (fun i σ' H' _ ⟨_, _, _, mv, _⟩ a' xs e hx => by cases e; exact mv.sq (by simpa using hqd) hx) ?_ ?_
   . rintro j k x σ' H' hk ⟨z3, z4, rfl, mv5, hd5⟩ hdx _
     have hx : Dv H' x (.tuple [.int k.1, .str k.2]) := hdx rfl mv5.tp
     refine r_unpP hx (fun w1 w2 f1 f2 => ?_)
     obtain rfl := f1.int_inv
     obtain rfl := f2.str_inv
     have hi5 := (hw4.setD mv5 hd5).ins
     obtain ⟨y, hy, hyt, rfl⟩ := hkm k (List.mem_of_getElem? hk)
     have hlk : lkp (tmD (ts.filter fun x => !((ks.take j).map (·.2)).contains x.1)) (swp y).2 = some (.int y.2) := by
      refine tm_lkp (x := y.1) (t := y.2) (hw.nd.sublist (List.filter_sublist.map _)) (List.mem_filter.mpr ⟨hy, ?_⟩)
      have := nd_take hkn hk
      rw [Bool.not_eq_true', <- Bool.not_eq_true, List.contains_iff_mem]
      exact this
     repeat' (walk_at "rd1")
     refine r_tyD hd5 ?_
     repeat' (walk_at "rd1")
     refine r_dpop hd5 hlk (fun v6 H6 mv6 hd6 => ?_)
     repeat' (walk_at "rd1")
     refine ⟨_, _, rfl, mv5.trans mv6, ?_⟩
     have e : tmD (ts.filter fun x => !((ks.take (j + 1)).map (·.2)).contains x.1) = dropD (tmD (ts.filter fun x => !((ks.take j).map (·.2)).contains x.1)) (swp y).2 := by
      unfold dropD tmD
      rw [List.filter_map, List.filter_filter]
      congr 1
      refine List.filter_congr fun x hx => ?_
      rw [take_snoc hk, List.map_append, Bool.eq_iff_iff]
      simp
      exact and_comm
     rw [e]; exact hd6
   . rintro σ' H' ⟨z3, z4, rfl, mv5, hd5⟩
     rw [List.take_length] at hd5
     have e : (ts.filter fun x => !(ks.map (·.2)).contains x.1) = ts.filter fun x => decide (t < x.2) := by
      refine List.filter_congr fun x hx => ?_
      rw [Bool.eq_iff_iff, Bool.not_eq_true', <- Bool.not_eq_true, List.contains_iff_mem, decide_eq_true_eq]
      constructor
      . intro hm
        by_cases c : x.2 <= t
        . exact absurd (List.mem_map.mpr ⟨swp x, hp'.mem_iff.mpr (List.mem_map_of_mem (List.mem_filter.mpr ⟨hx, decide_eq_true c⟩)), rfl⟩) hm
        . omega
      . intro ht hm
        obtain ⟨k, hk, e⟩ := List.mem_map.mp hm
        obtain ⟨y, hy, hyt, rfl⟩ := hkm k hk
        have e' : y.1 = x.1 := e
        have h1 : (x.1, y.2) ∈ ts := by rw [<- e']; exact hy
        have := nd_one hw.nd h1 (show (x.1, x.2) ∈ ts from hx)
        omega
     rw [e] at hd5
     have hw5 := hw4.setD mv5 hd5
     repeat' (walk_at "rd1")
     refine q q2 H' G1 mvs1 ks ?_ (mv1.none (sm2.none hn3)) ?_ hp' hs (hq4.mv mv5 (by simpa using hqd)) ⟨hw5, hgi1, hw.uo, hw.nd.sublist (List.filter_sublist.map _), hmn1, fun x => ?_⟩ hmm1 hfs1
     . exact Mv.step (Mv.step (Mv.step (mv_sub mv1 fun b hb => by simp only [List.mem_cons] at hb ⊢; exact .inr (.inr hb)) (sm13.mv (S := [])) fun b hb => nomatch hb) mv4 fun b hb => .inl (by rw [List.mem_singleton.mp hb]; simp)) mv5 fun b hb => .inl (by rw [List.mem_singleton.mp hb]; simp)
     . exact fun z => hq2al q2 z rfl
     . constructor
       . intro hx
         obtain ⟨⟨_, v'⟩, hv, rfl⟩ := List.mem_map.mp hx
         obtain ⟨u, v, h1, h2, _⟩ := (hmm1 _ v').mp hv
         exact List.mem_map.mpr ⟨_, List.mem_filter.mpr ⟨h1, decide_eq_true h2⟩, rfl⟩
       . intro hx
         obtain ⟨⟨x0, u⟩, hu, e0⟩ := List.mem_map.mp hx
         have e0 : x0 = x := e0
         subst e0
         obtain ⟨h1, h2⟩ := List.mem_filter.mp hu
         have h2 : t < u := of_decide_eq_true h2
         obtain ⟨y, hy, e⟩ := List.mem_map.mp ((hw.mem x0).mpr (List.mem_map.mpr ⟨_, h1, rfl⟩))
         have e : y.1 = x0 := e
         refine List.mem_map.mpr ⟨(x0, _), (hmm1 x0 _).mpr ⟨u, y.2, h1, h2, ?_, rfl⟩, rfl⟩
         rw [<- e]; exact hy
theorem cal_due (T : Txt K mg a) : CalD P w K mg base 5 a.f_Waits_due ["self", "to"] [] (sp_due a.C_Wheels a.C_Wheel a.C_Past) :=
 ⟨⟨_, _, ok_due T, T.F_Waits_due.binds fun _ _ _ _ _ _ => .all fun us hl => match us, hl with | [_, _], _ => rfl, .nil⟩⟩
def sp_moved (C CW cN : Addr) : Sp := fun vs H Q E => ∃ (p d m : Addr) (n : Int) (us : List (Int × Int)) (G : Geo) (ts mvs : List (Str × Int)) (x : Str), vs = [.ref p, .str x] /\ Wss C CW H p d m n us G ts mvs /\ NmT x /\ (x ∉ ts.map (·.1) -> ∀ d', H d' = none -> E (.ref cN) (some d') (Xn H d' x)) /\ (∀ v, (x, v) ∈ mvs -> Q (.int v) H)
theorem ok_moved (T : Txt K mg a) : FnOk P w K mg base (CXD P w) 5 a.f_Wheels_moved a.fd_Wheels_moved ["self", "name"] (sp_moved a.C_Wheels a.C_Wheel a.C_NoBell) := by
 have n1 := T.na_Wheels_now; have n2 := T.na_Wheels_moves; have cl := T.cl_Wheels
 have m_check_waits := T.m_Wheels_check_waits
 have c_check_waits := cal_checkw (P := P) (w := w) (base := base) T
 refine T.F_Wheels_moved.okD sc_Wheels_moved (fun vs H Q E h => ?_) (fun cdv A outer s H vs Q E hr h => ?_)
 . obtain ⟨_, _, _, _, _, _, _, _, _, rfl, _⟩ := h; rfl
 . obtain ⟨p, d, m, n, us, G, ts, mvs, x, rfl, hw, hx, qN, q⟩ := h
   have hi := hw.ws.ins; have hm := hw.ws.mm
   refine ⟨_, (pss_cut (ps_expr (pd_meth (pv 0) cl m_check_waits c_check_waits (hr.mono (by decide)) passD (pa_cons (pv 1) pa_nil)))
    (pss_one (ps_ret (pe_dget (hu_of hr) (pe_fld (pv 0) rfl) (pv 1) (fun _ _ => rfl))))), ?_⟩
   repeat' (walk_at "rd1")
   refine ⟨p, d, m, n, G, ts, mvs, x, rfl, hw.ws, hx, qN, fun hin => ?_⟩
   obtain ⟨y, hy, e⟩ := List.mem_map.mp ((hw.mem x).mpr hin)
   have hy' : (x, y.2) ∈ mvs := by rw [<- e]; exact hy
   have hlk := tm_lkp hw.mnd hy'
   repeat' (walk_at "rd1")
   exact q y.2 hy'
theorem cal_moved (T : Txt K mg a) : CalD P w K mg base 5 a.f_Wheels_moved ["self", "name"] [] (sp_moved a.C_Wheels a.C_Wheel a.C_NoBell) :=
 ⟨⟨_, _, ok_moved T, T.F_Wheels_moved.binds fun _ _ _ _ _ _ => .all fun us hl => match us, hl with | [_, _], _ => rfl, .nil⟩⟩
def wpD (x : Str × PyData) : PyData := match x.2 with
 | .int t => pairD (t, x.1)
 | _ => .none
theorem wpD_imm (x : Str × PyData) : Imm (wpD x) = true := by
 obtain ⟨n, d⟩ := x
 cases d <;> rfl
def sp_allof (C CW : Addr) : Sp := fun vs H Q _ => ∃ (p d m : Addr) (n : Int) (G : Geo) (ts mvs : List (Str × Int)), vs = [.ref p] /\ WsAt C CW H p d m n G ts mvs /\ ts.length < 60 /\ ∀ q H' ks, Same H H' -> H q = none -> ks.Perm (ts.map swp) -> Srt ks -> LAt H' q (ks.map pairD) -> Q (.ref q) H'
theorem ok_allof (T : Txt K mg a) : FnOk P w K mg base CX0 1 a.f_Waits_all_of a.fd_Waits_all_of ["self"] (sp_allof a.C_Wheels a.C_Wheel) := by
 have n1 := T.na_Wheels_now; have n2 := T.na_Wheels_times; have cl := T.cl_Wheels
 refine T.F_Waits_all_of.ok sc_Waits_all_of (fun vs H Q E h => ?_) (fun cdv A outer s H vs Q E hr h => ?_)
 . obtain ⟨_, _, _, _, _, _, _, rfl, _⟩ := h; rfl
 . obtain ⟨p, d, m, n, G, ts, mvs, rfl, hw, hl, q⟩ := h
   have hi := hw.ins; have hd := hw.dd
   refine ⟨_, (pss_one (ps_ret (pe_callB call_sortP rfl T.no_sorted PyProof.Rows.boot_sorted (pa_cons (pe_thaw (pe_lc (T := ["name", "time"]) (M := ["self"]) (lcn (defScope s_Waits_all_of) ["self"] rfl rfl (by decide +kernel)) rfl (pi_items (pe_fld (pv 0) rfl)) (fun _ _ _ _ _ => (pg_tupK (K := K) (n := 2) rfl rfl (pgs_cons (pg_name (i := 0) (show List.Nodup (["name", "time", "self"] : List Str) by decide +kernel) rfl (Or.inl rfl)) (pgs_cons (pg_name (i := 1) (show List.Nodup (["name", "time", "self"] : List Str) by decide +kernel) rfl (Or.inl rfl)) pgs_nil)))) (gown_tup (gsown_cons (by decide) (gsown_cons (by decide) gsown_nil))) (fun _ _ _ _ _ => pif_nil) (fun _ _ _ _ _ => (pe_tupD (pa_cons (pv 1) (pa_cons (pv 0) pa_nil)))))) pa_nil)))), ?_⟩
   repeat' (walk_at "rd1")
   refine r_lcI hd (fun R hR => ?_) (fun _ => true) wpD (by rw [tmD_len]; omega) wpD_imm (fun y c Hf H2 N hc mvf hrd sm2 hy yes no => ?_) (fun q1 H1 sm1 hn1 hq1 => ?_)
   . repeat' (walk_at "rd1")
     exact hR
   . obtain ⟨x, hx, rfl⟩ := List.mem_map.mp hc
     refine r_unpP hy (fun w1 w2 f1 f2 => ?_)
     obtain rfl := f1.str_inv
     obtain rfl := f2.int_inv
     refine r_lct (fun hb => ?_) (fun hb => by cases hb)
     repeat' (walk_at "rd1")
     exact yes rfl _ _ (by walk_at "same") (by walk_at "dat")
   have hq1' : Dv H1 (.ref q1) (.list ((ts.map swp).map pairD)) := by
    have := hq1.dv
    rw [fil_all] at this
    unfold tmD at this
    rw [List.map_map] at this
    rw [List.map_map]; exact this
   repeat' (walk_at "rd1")
   refine r_sortP hq1' (by rw [List.length_map]; omega) (fun q2 H2 ks sm2 hn2 hp hs hq2 => ?_)
   repeat' (walk_at "rd1")
   exact q q2 H2 ks (sm1.trans sm2) (sm1.none hn2) hp hs hq2
theorem cal_allof (T : Txt K mg a) : Cal P w K mg base 1 a.f_Waits_all_of ["self"] [] (sp_allof a.C_Wheels a.C_Wheel) :=
 ⟨⟨_, _, ok_allof T, T.F_Waits_all_of.binds fun _ _ _ _ _ _ => .all fun us hl => match us, hl with | [_], _ => rfl, .nil⟩⟩
def sp_bits (C CW : Addr) : Sp := fun vs H Q _ => ∃ (p d m : Addr) (n : Int) (us : List (Int × Int)) (G : Geo) (ts mvs : List (Str × Int)) (k : Nat) (y : Wh), vs = [.ref p, .int (k : Int)] /\ Wss C CW H p d m n us G ts mvs /\ G.ws[k]? = some y /\ Q (.int y.m) H
theorem ok_bits (T : Txt K mg a) : FnOk P w K mg base CX0 1 a.f_Wheels_bits a.fd_Wheels_bits ["self", "k"] (sp_bits a.C_Wheels a.C_Wheel) := by
 have n1 := T.na_Wheels_wheels; have n2 := T.na_Wheel_mask; have cl := T.cl_Wheels; have cl2 := T.cl_Wheel
 refine T.F_Wheels_bits.ok sc_Wheels_bits (fun vs H Q E h => ?_) (fun cdv A outer s H vs Q E hr h => ?_)
 . obtain ⟨_, _, _, _, _, _, _, _, _, _, rfl, _⟩ := h; rfl
 . obtain ⟨p, d, m, n, us, G, ts, mvs, k, y, rfl, hw, hy, q⟩ := h
   have hi := hw.ws.ins
   have hg := hw.ws.g
   have hwy := hg.w y (List.mem_of_getElem? hy)
   obtain ⟨dxy, hxy⟩ := hwy.i
   have hiy : Ins H (.ref y.x) a.C_Wheel [("unit", .int y.u), ("slots", .int y.s), ("span", .int (y.u * y.s)), ("mask", .int y.m), ("names_in", .ref y.dn)] := ⟨y.x, dxy, rfl, hxy⟩
   refine ⟨_, (pss_one (ps_ret (pe_fld (pe_ix ix_K (pe_fld (pv 0) rfl) (pv 1) (fun _ _ => rfl)) rfl))), ?_⟩
   repeat' (walk_at "rd1")
   refine r_ixL (.of hg.q) (at_idx hy) ?_
   repeat' (walk_at "rd1")
   exact q
theorem cal_bits (T : Txt K mg a) : Cal P w K mg base 1 a.f_Wheels_bits ["self", "k"] [] (sp_bits a.C_Wheels a.C_Wheel) :=
 ⟨⟨_, _, ok_bits T, T.F_Wheels_bits.binds fun _ _ _ _ _ _ => .all fun us hl => match us, hl with | [_, _], _ => rfl, .nil⟩⟩
def sp_least (C CW : Addr) : Sp := fun vs H Q _ => ∃ (p d m : Addr) (n : Int) (G : Geo) (ts mvs : List (Str × Int)), vs = [.ref p] /\ WsAt C CW H p d m n G ts mvs /\ (ts = [] -> Q .non H) /\ (∀ t ∈ ts.map (·.2), (∀ u ∈ ts.map (·.2), t <= u) -> Q (.int t) H)
theorem ok_least (T : Txt K mg a) : FnOk P w K mg base CX0 1 a.f_Waits_least a.fd_Waits_least ["self"] (sp_least a.C_Wheels a.C_Wheel) := by
 have n1 := T.na_Wheels_now; have n2 := T.na_Wheels_times; have cl := T.cl_Wheels
 refine T.F_Waits_least.ok sc_Waits_least (fun vs H Q E h => ?_) (fun cdv A outer s H vs Q E hr h => ?_)
 . obtain ⟨_, _, _, _, _, _, _, rfl, _⟩ := h; rfl
 . obtain ⟨p, d, m, n, G, ts, mvs, rfl, hw, q1, q2⟩ := h
   have hi := hw.ins; have hd := hw.dd
   refine ⟨_, (pss_cut (ps_if (pt_not (pt_truth (pe_fld (pv 0) rfl) (fun _ => rfl)))
    (pss_one (ps_ret pe_non))
    pss_nil)
    (pss_one (ps_ret (pe_minV (pe_fld (pv 0) rfl) rfl rfl T.no_min)))), ?_⟩
   repeat' (walk_at "rd1")
   refine r_truDD hd ?_
   repeat' (walk_at "rd1")
   . rename_i hb
     exact q1 (by cases ts with | nil => rfl | cons y r => simp [tmD] at hb)
   . rename_i hb
     have hne : 0 < (ts.map (·.2)).length := by
      cases ts with
      | nil => simp [tmD] at hb
      | cons y r => simp
     refine r_minV hd (ns := ts.map (·.2)) (by unfold tmD; rw [List.map_map, List.map_map]; rfl) hne (fun t ht hm => ?_)
     exact q2 t ht hm
theorem cal_least (T : Txt K mg a) : Cal P w K mg base 1 a.f_Waits_least ["self"] [] (sp_least a.C_Wheels a.C_Wheel) :=
 ⟨⟨_, _, ok_least T, T.F_Waits_least.binds fun _ _ _ _ _ _ => .all fun us hl => match us, hl with | [_], _ => rfl, .nil⟩⟩
def sp_drawn : Sp := fun vs H Q _ => ∃ c k, vs = [.int c, .int k] /\ 0 <= k /\ k <= 1000 /\ ∀ r, 0 <= r -> Q (.int r) H
theorem ok_drawn (T : Txt K mg a) : FnOk P w K mg base CX0 1 a.f__law_drawn a.fd__law_drawn ["_law_cell", "_law_k"] sp_drawn := by
 refine T.F__law_drawn.ok sc__law_drawn (fun vs H Q E h => ?_) (fun cdv A outer s H vs Q E hr h => ?_)
 . obtain ⟨_, _, rfl, _⟩ := h; rfl
 . obtain ⟨c, k, rfl, h0, h1, q⟩ := h
   refine ⟨_, (pss_cut (ps_set (i := 2) sc__law_drawn.nd rfl (Or.inl rfl) (pe_op op_modP (pe_op op_mul (pe_op op_add (pe_op op_add (pv 0) (pe_op op_mulB pe_int (pv 1))) pe_int) pe_int) pe_int))
    (pss_cut (ps_set (i := 2) sc__law_drawn.nd rfl (Or.inl rfl) (pe_op op_modP (pe_op op_mulB (pv 2) (pe_op op_add (pe_op op_fdivB (pv 2) pe_int) pe_int)) pe_int))
    (pss_one (ps_ret (pe_op op_modP (pe_op op_mulB (pv 2) (pe_op op_add (pe_op op_fdivB (pv 2) pe_int) pe_int)) pe_int))))), ?_⟩
   repeat' (walk_at "rd1")
   refine r_i (.inr ⟨by decide, by decide⟩) ?_
   repeat' (walk_at "rd1")
   rename_i b1 b2
   exact q _ b1
theorem cal_drawn (T : Txt K mg a) : Cal P w K mg base 1 a.f__law_drawn ["_law_cell", "_law_k"] [] sp_drawn :=
 ⟨⟨_, _, ok_drawn T, T.F__law_drawn.binds fun _ _ _ _ _ _ => .all fun us hl => match us, hl with | [_, _], _ => rfl, .nil⟩⟩
def sp_draws : Sp := fun vs H Q _ => ∃ (c w : Int) (m : Nat), vs = [.int c, .int (m : Int), .int w] /\ m <= 3 /\ ∀ q H' (ds : List Int), Same H H' -> H q = none -> LAt H' q (ds.map PyData.int) -> ds.length = m -> (∀ d ∈ ds, 0 <= d) -> Q (.ref q) H'
theorem ok_draws (T : Txt K mg a) : FnOk P w K mg base CX0 2 a.f__law_draws a.fd__law_draws ["_law_cell", "_law_many", "_law_way"] sp_draws := by
 have c__law_drawn := cal_drawn (P := P) (w := w) (base := base) T
 refine T.F__law_draws.ok sc__law_draws (fun vs H Q E h => ?_) (fun cdv A outer s H vs Q E hr h => ?_)
 . obtain ⟨_, _, _, rfl, _⟩ := h; rfl
 . obtain ⟨c, w', m, rfl, hm, q⟩ := h
   refine ⟨_, (pss_cut (ps_set (i := 3) sc__law_draws.nd rfl (Or.inl rfl) (pe_lstD pa_nil))
    (pss_cut (ps_for PassesOwn.never rfl (pi_range1 rfl T.no_range (pa_cons (pv 1) pa_nil)) (pg_name (i := 4) sc__law_draws.nd rfl (Or.inl rfl))
     (pss_one (ps_if (pt_cmpR (op_eqA hr.hu8) (pe_op op_modP (pv 2) pe_int) pe_int (nomark _))
      (pss_cut (ps_expr (pe_bm PySem.F.plainAttrs_list PySem.F.slot_list_append PySem.F.type_list_append mt_append (pv 3) (pa_cons (pe_op op_modP (pv 0) (pe_op op_pow pe_int pe_int)) pa_nil)))
      (pss_one (ps_set (i := 0) sc__law_draws.nd rfl (Or.inl rfl) (pe_op op_fdivB (pv 0) (pe_op op_pow pe_int pe_int)))))
      (pss_one (ps_expr (pe_bm PySem.F.plainAttrs_list PySem.F.slot_list_append PySem.F.type_list_append mt_append (pv 3) (pa_cons (pn_call c__law_drawn (hr.mono (by decide)) rfl T.mg__law_drawn T.kp__law_drawn (pa_cons (pv 0) (pa_cons (pv 4) pa_nil))) pa_nil)))))))
    (pss_one (ps_ret (pv 3))))), ?_⟩
   repeat' (walk_at "rd1")
   rename_i ql H1 sm1 hn1 hq1
   refine for_range (fun j σ' H' => ∃ c' z ds, σ' = [some (.int c'), some (.int (m : Int)), some (.int w'), some (.ref ql), z] /\ Mv [ql] H1 H' /\ LAt H' ql (ds.map PyData.int) /\ ds.length = j /\ (∀ d ∈ ds, 0 <= d)) ⟨c, _, [], rfl, Mv.refl, hq1, rfl, fun d h => nomatch h⟩ ?_ ?_
   . rintro j σ' H' hj ⟨c', z, ds, rfl, mv, hq, hdl, hds⟩
     rw [Int.toNat_natCast] at hj
     have hll : (ds.map PyData.int).length = ds.length := List.length_map ..
     have fin : ∀ (r c2 : Int) H2, 0 <= r -> Mv [ql] H' H2 -> LAt H2 ql (ds.map PyData.int ++ [.int r]) -> ∀ z, ∃ c' z', ∃ ds' : List Int, ([some (.int c2), some (.int (m : Int)), some (.int w'), some (.ref ql), z] : St) = [some (.int c'), some (.int (m : Int)), some (.int w'), some (.ref ql), z'] /\ Mv [ql] H1 H2 /\ LAt H2 ql (ds'.map PyData.int) /\ ds'.length = j + 1 /\ (∀ d ∈ ds', 0 <= d) := fun r c2 H2 hr mv2 hq2 z => by
      refine ⟨c2, z, ds ++ [r], rfl, mv.trans mv2, by rw [List.map_append]; exact hq2, by rw [List.length_append, hdl]; rfl, fun d hd => ?_⟩
      rcases List.mem_append.mp hd with hd | hd
      . exact hds d hd
      . rw [List.mem_singleton.mp hd]; exact hr
     repeat' (walk_at "rd1")
     . rename_i _ _ _ b0 _ H2 mv2 hq2
       exact fin _ _ H2 b0 mv2 hq2 _
     . refine ⟨c', _, rfl, by omega, by omega, fun r hr => ?_⟩
       repeat' (walk_at "rd1")
       rename_i H2 mv2 hq2
       exact fin _ _ H2 hr mv2 hq2 _
   . rintro σ' H' ⟨c', z, ds, rfl, mv, hq, hdl, hds⟩
     repeat' (walk_at "rd1")
     exact q ql H' ds (Mv.sameN sm1 mv hn1) hn1 hq (by rw [hdl, Int.toNat_natCast]) hds
theorem cal_draws (T : Txt K mg a) : Cal P w K mg base 2 a.f__law_draws ["_law_cell", "_law_many", "_law_way"] [] sp_draws :=
 ⟨⟨_, _, ok_draws T, T.F__law_draws.binds fun _ _ _ _ _ _ => .all fun us hl => match us, hl with | [_, _, _], _ => rfl, .nil⟩⟩
def Ltr (s : Str) : Prop := ∀ c ∈ s.cps.toList, c < 1114112
theorem cps_app (x y : Str) : (x ++ y).cps.toList = x.cps.toList ++ y.cps.toList := by show (x.cps ++ y.cps).toList = _; simp
theorem ltr_app {s t : Str} (h : Ltr s) (k : Ltr t) : Ltr (s ++ t) := by
 intro c hc
 rw [cps_app] at hc
 rcases List.mem_append.mp hc with hc | hc
 . exact h c hc
 . exact k c hc
abbrev abcS : Str := Str.ofString "abcdefghijklmnopqrstuvwxyz"
theorem abc_len : (Str.ofString "abcdefghijklmnopqrstuvwxyz").length = 26 := by decide +kernel
theorem abc_at : ∀ i : Fin 26, abcS.cps.toList[i.val]? = some (97 + i.val) := by decide +kernel
theorem one_len (c : Nat) : (Str.mk #[c]).length = 1 := rfl
theorem r_ixAbc {H : Hp} {Q : VK} {i : Int} (h0 : 0 <= i) (h1 : i < 26) (h : Q (.str ⟨#[97 + i.toNat]⟩) H) : rIxK K (.str (Str.ofString "abcdefghijklmnopqrstuvwxyz")) (.int i) H Q :=
 r_ixLx (by rw [abc_len]; decide) h0 (by rw [abc_len]; omega) fun c hc => by
  have e := abc_at ⟨i.toNat, by omega⟩
  have e2 : some c = some (97 + i.toNat) := hc.symm.trans e
  rw [Option.some.inj e2]; exact h
theorem one_ltr {c : Nat} (h : c < 200) : Ltr ⟨#[c]⟩ := fun d hd => by
 have : d = c := by simpa using hd
 omega
local macro_rules | `(tactic| walk_at "rd1") => `(tactic| first
 | ((with_reducible refine' r_ixAbc ?e1 ?e2 ?_); (case e1 => omega); (case e2 => omega))
 | fail)
set_option hygiene false in
local macro_rules | `(tactic| walk_at "len") => `(tactic| first
 | (simp only [Str.length_append, one_len] at *; omega)
 | fail)
def sp_word : Sp := fun vs H Q _ => ∃ d : Int, vs = [.int d] /\ ∀ x : Str, NmT x -> Q (.str x) H
theorem ok_word (T : Txt K mg a) : FnOk P w K mg base CX0 1 a.f__law_word a.fd__law_word ["_law_draw"] sp_word := by
 refine T.F__law_word.ok sc__law_word (fun vs H Q E h => ?_) (fun cdv A outer s H vs Q E hr h => ?_)
 . obtain ⟨_, rfl, _⟩ := h; rfl
 . obtain ⟨d, rfl, q⟩ := h
   refine ⟨_, (pss_cut (ps_set (i := 1) sc__law_word.nd rfl (Or.inl rfl) (pe_ix ix_K pe_str (pe_op op_modP (pe_op op_fdivB (pv 0) pe_int) pe_int) (fun _ _ => rfl)))
    (pss_cut (ps_set (i := 2) sc__law_word.nd rfl (Or.inl rfl) (pe_op op_fdivB (pv 0) pe_int))
    (pss_cut (ps_for PassesOwn.never rfl (pi_range1 rfl T.no_range (pa_cons (pe_op op_modP (pv 0) pe_int) pa_nil)) (pg_name (i := 3) sc__law_word.nd rfl (Or.inl rfl))
     (pss_cut (ps_set (i := 1) sc__law_word.nd rfl (Or.inl rfl) (pe_op op_addS (pv 1) (pe_ix ix_K pe_str (pe_op op_modP (pv 2) pe_int) (fun _ _ => rfl))))
     (pss_one (ps_set (i := 2) sc__law_word.nd rfl (Or.inl rfl) (pe_op op_fdivB (pv 2) pe_int)))))
    (pss_one (ps_ret (pv 1)))))), ?_⟩
   repeat' (walk_at "rd1")
   refine for_range (fun j σ' H' => H' = H /\ ∃ x r z, σ' = [some (.int d), some (.str x), some (.int r), z] /\ x.length <= j + 1 /\ Ltr x) ⟨rfl, _, _, _, rfl, Nat.le_refl _, one_ltr (by omega)⟩ ?_ ?_
   . rintro j σ' H' hj ⟨rfl, x, r, z, rfl, hxl, hx⟩
     repeat' (walk_at "rd1")
     exact ⟨rfl, _, _, _, rfl, by simp only [Str.length_append, one_len]; omega, ltr_app hx (one_ltr (by omega))⟩
   . rintro σ' H' ⟨rfl, x, r, z, rfl, hxl, hx⟩
     repeat' (walk_at "rd1")
     exact q _ ⟨by omega, hx⟩
theorem cal_word (T : Txt K mg a) : Cal P w K mg base 1 a.f__law_word ["_law_draw"] [] sp_word :=
 ⟨⟨_, _, ok_word T, T.F__law_word.binds fun _ _ _ _ _ _ => .all fun us hl => match us, hl with | [_], _ => rfl, .nil⟩⟩
theorem y_ltr {t : Str} (h : ∀ c ∈ t.cps.toList, c ∈ (Str.cps "y").toList) : Ltr t := fun c hc => by
 have := h c hc
 have e : (Str.cps "y").toList = [121] := by decide +kernel
 rw [e] at this
 simp at this
 omega
def sp_name : Sp := fun vs H Q _ => ∃ k st : Int, vs = [.int k, .int st] /\ 0 <= k /\ k < 60 /\ ∀ x : Str, NmT x -> Q (.str x) H
theorem ok_name (T : Txt K mg a) : FnOk P w K mg base CX0 1 a.f__law_name a.fd__law_name ["_law_k", "_law_style"] sp_name := by
 refine T.F__law_name.ok sc__law_name (fun vs H Q E h => ?_) (fun cdv A outer s H vs Q E hr h => ?_)
 . obtain ⟨_, _, rfl, _⟩ := h; rfl
 . obtain ⟨k, st, rfl, h0, h1, q⟩ := h
   refine ⟨_, (pss_cut (ps_set (i := 2) sc__law_name.nd rfl (Or.inl rfl) pe_str)
    (pss_cut (ps_if (pt_cmpR (op_eqA hr.hu8) (pe_op op_modP (pv 1) pe_int) pe_int (nomark _))
     (pss_one (ps_ret (pe_op op_addS (pe_op op_addS (pe_op op_mulL pe_str (pe_op op_modP (pe_op op_fdivB (pv 1) pe_int) pe_int)) (pe_ix ix_K (pv 2) (pe_op op_modP (pv 0) pe_int) (fun _ _ => rfl))) (pe_ix ix_K (pv 2) (pe_op op_fdivB (pv 0) pe_int) (fun _ _ => rfl)))))
     pss_nil)
    (pss_one (ps_ret (pe_op op_addS (pe_op op_addS (pe_ix ix_K (pv 2) (pe_op op_fdivB (pv 0) pe_int) (fun _ _ => rfl)) (pe_op op_mulL pe_str (pe_op op_modP (pe_op op_fdivB (pv 1) pe_int) pe_int))) (pe_ix ix_K (pv 2) (pe_op op_sub pe_int (pe_op op_modP (pv 0) pe_int)) (fun _ _ => rfl))))))), ?_⟩
   repeat' (walk_at "rd1")
   . rename_i ah hal hah _ _
     refine q _ ⟨?_, ltr_app (ltr_app (y_ltr hah) (one_ltr (by omega))) (one_ltr (by omega))⟩
     simp only [Str.length_append, one_len]; omega
   . rename_i ah hal hah _ _
     refine q _ ⟨?_, ltr_app (ltr_app (one_ltr (by omega)) (y_ltr hah)) (one_ltr (by omega))⟩
     simp only [Str.length_append, one_len]; omega
theorem cal_name (T : Txt K mg a) : Cal P w K mg base 1 a.f__law_name ["_law_k", "_law_style"] [] sp_name :=
 ⟨⟨_, _, ok_name T, T.F__law_name.binds fun _ _ _ _ _ _ => .all fun us hl => match us, hl with | [_, _], _ => rfl, .nil⟩⟩
theorem lay_all {α : Type} {g : α -> PyData} {l : List α} (h : ∀ x ∈ l, (g x).canLay0 = true) : PyData.canLayAll0 (l.map g) = true := by
 induction l with
 | nil => rfl
 | cons x r ih =>
   rw [List.map_cons, PyData.canLayAll0, h x List.mem_cons_self, ih fun y hy => h y (List.mem_cons_of_mem _ hy)]; rfl
theorem dep_all {α : Type} {g : α -> PyData} {n : Nat} {l : List α} (h : ∀ x ∈ l, (g x).depth <= n) : PyData.depthAll (l.map g) <= n := by
 induction l with
 | nil => rw [List.map_nil, PyData.depthAll]; exact Nat.zero_le _
 | cons x r ih =>
   rw [List.map_cons, PyData.depthAll]
   exact Nat.max_le.mpr ⟨h x List.mem_cons_self, ih fun y hy => h y (List.mem_cons_of_mem _ hy)⟩
theorem nm_lay {s : Str} (h : NmT s) : PyData.canLay0 (.str s) = true := by
 show s.cps.all (· < 0x110000) = true
 rw [Array.all_eq_true']
 intro c hc
 exact decide_eq_true (h.2 c (by simpa using hc))
section
variable {H : Hp} {Q : VK} {f : Bool -> Bool} {x y : V}
theorem r_eqSm {d : PyData} (h1 : Dv H x d) (h2 : Dv H y d) (hl : d.canLay0 = true) (hd : d.depth <= 8) (h : Q (.bl (f true)) H) : rEqA K f x y H Q := r_eqD h1 h2 hl hl hd (by rw [PySem.SeqAt.eqv_refl d hl]; exact h)
theorem r_eqNl {ds : List PyData} (h1 : Dv H x (.list ds)) (h2 : Dv H y (.list [])) (hl : PyData.canLayAll0 ds = true) (hd : PyData.depthAll ds <= 7) (h : Q (.bl (f ds.isEmpty)) H) : rEqA K f x y H Q := by
 refine r_eqD h1 h2 (by rw [PyData.canLay0]; exact hl) rfl (by rw [PyData.depth]; omega) ?_
 cases ds with
 | nil => exact h
 | cons d r => exact h
variable {ks : List (Int × Str)}
theorem pr_lay (hs : ∀ k ∈ ks, NmT k.2) : PyData.canLayAll0 (ks.map pairD) = true := lay_all fun k hk => by
 have := nm_lay (hs k hk)
 simp only [pairD, PyData.canLay0, PyData.canLayAll0, Bool.and_true, Bool.true_and] at this ⊢
 exact this
theorem pr_dep : PyData.depthAll (ks.map pairD) <= 3 := dep_all fun k _ => by simp [pairD, PyData.depth, PyData.depthAll]
theorem r_eqPP (h1 : Dv H x (.list (ks.map pairD))) (h2 : Dv H y (.list (ks.map pairD))) (hs : ∀ k ∈ ks, NmT k.2) (h : Q (.bl (f true)) H) : rEqA K f x y H Q :=
 r_eqSm h1 h2 (by rw [PyData.canLay0]; exact pr_lay hs) (by have := pr_dep (ks := ks); rw [PyData.depth]; omega) h
theorem r_eqPN (h1 : Dv H x (.list (ks.map pairD))) (h2 : Dv H y (.list [])) (hs : ∀ k ∈ ks, NmT k.2) (h : Q (.bl (f ks.isEmpty)) H) : rEqA K f x y H Q :=
 r_eqNl h1 h2 (pr_lay hs) (by have := pr_dep (ks := ks); omega) (by cases ks <;> exact h)
end
theorem srt_unique : ∀ {xs ys : List (Int × Str)}, xs.Perm ys -> Srt xs -> Srt ys -> xs = ys
 | [], _, hp, _, _ => List.Perm.nil_eq hp
 | x :: xs, [], hp, _, _ => by have := hp.length_eq; simp at this
 | x :: xs, y :: ys, hp, h1, h2 => by
   have hx := List.pairwise_cons.mp h1
   have hy := List.pairwise_cons.mp h2
   have hxy : x = y := by
    have m1 : y ∈ x :: xs := hp.mem_iff.mpr List.mem_cons_self
    have m2 : x ∈ y :: ys := hp.mem_iff.mp List.mem_cons_self
    rcases List.mem_cons.mp m1 with e | m1'
    . exact e.symm
    rcases List.mem_cons.mp m2 with e | m2'
    . exact e
    exact ltIS_tot (hy.1 x m2') (hx.1 y m1')
   subst hxy
   rw [srt_unique (List.Perm.cons_inv hp) hx.2 hy.2]
def sp_rounds : Sp := fun vs H Q _ => ∃ (l : Addr) (ns : List Int), vs = [.ref l] /\ SqL K H l (ns.map V.int) /\ ∀ q H' (rs : List Int), Same H H' -> H q = none -> LAt H' q (rs.map PyData.int) -> 1 <= rs.length -> rs.length <= 6 -> (∀ r ∈ rs, 2 <= r /\ r <= 60) -> Q (.ref q) H'
def rndD (d : PyData) : Prop := ∃ r : Int, d = .int r /\ 2 <= r /\ r <= 60
theorem rndD_ints : ∀ {ds : List PyData}, (∀ d ∈ ds, rndD d) -> ∃ rs : List Int, ds = rs.map PyData.int /\ ∀ r ∈ rs, 2 <= r /\ r <= 60
 | [], _ => ⟨[], rfl, fun r h => by cases h⟩
 | d :: ds, h => by
   obtain ⟨rs, rfl, hr⟩ := rndD_ints fun x hx => h x (List.mem_cons_of_mem _ hx)
   obtain ⟨r, rfl, h1⟩ := h d List.mem_cons_self
   refine ⟨r :: rs, rfl, fun x hx => ?_⟩
   rcases List.mem_cons.mp hx with rfl | hx
   . exact h1
   . exact hr x hx
theorem ok_rounds (T : Txt K mg a) : FnOk P w K mg base CX0 2 a.f__law_rounds a.fd__law_rounds ["_law_script"] (sp_rounds (K := K)) := by
 have c__law_cell_at := cal_law_cell_at (P := P) (w := w) (base := base) T
 refine T.F__law_rounds.ok sc__law_rounds (fun vs H Q E h => ?_) (fun cdv A outer s H vs Q E hr h => ?_)
 . obtain ⟨_, _, rfl, _⟩ := h; rfl
 . obtain ⟨l, ns, rfl, hl, q⟩ := h
   refine ⟨_, (pss_cut (ps_set (i := 1) sc__law_rounds.nd rfl (Or.inl rfl) (pe_op op_add pe_int (pe_op op_modP (pn_call c__law_cell_at (hr.mono (by decide)) rfl T.mg__law_cell_at T.kp__law_cell_at (pa_cons (pv 0) (pa_cons pe_int pa_nil))) pe_int)))
    (pss_one (ps_ret (pe_lc (T := ["_law_k"]) (M := ["_law_script", "_law_many"]) (lcn (defScope s__law_rounds) ["_law_script", "_law_many"] rfl rfl (by decide +kernel)) rfl (pi_range1 rfl T.no_range (pa_cons (pv 1) pa_nil)) (fun _ _ _ _ _ => (pg_name (i := 0) (show List.Nodup (["_law_k", "_law_script", "_law_many"] : List Str) by decide +kernel) rfl (Or.inl rfl))) (gown_name (by decide)) (fun _ _ _ _ _ => pif_nil) (fun _ _ _ _ _ => (pe_op op_add pe_int (pe_op op_modP (pn_call c__law_cell_at (hr.mono (by decide)) rfl T.mg__law_cell_at T.kp__law_cell_at (pa_cons (pv 1) (pa_cons (pe_op op_add pe_int (pv 0)) pa_nil))) pe_int))))))), ?_⟩
   repeat' (walk_at "rd1")
   refine r_lcRP (fun _ d => rndD d) (by omega) (fun _ d ⟨r, e, _⟩ => by rw [e]; rfl) (fun i H1 N hi sm1 yes => ?_) (fun p0 H1 ds sm1 hn1 hq1 hdl hds => ?_)
   . have hl1 : SqL K H1 l (ns.map V.int) := by walk_at "sql"
     repeat' (walk_at "rd1")
     refine r_lct (fun hb => ?_) (fun hb => by cases hb)
     repeat' (walk_at "rd1")
     exact yes _ _ _ (Same.refl _) ⟨_, rfl, by omega, by omega⟩ (.int _)
   . obtain ⟨rs, rfl, hrs⟩ := rndD_ints fun d hd => by
      obtain ⟨j, hj⟩ := List.getElem?_of_mem hd
      exact hds j d hj
     rw [List.length_map] at hdl
     repeat' (walk_at "rd1")
     exact q p0 H1 rs sm1 hn1 hq1 (by omega) (by omega) hrs
theorem cal_rounds (T : Txt K mg a) : Cal P w K mg base 2 a.f__law_rounds ["_law_script"] [] (sp_rounds (K := K)) :=
 ⟨⟨_, _, ok_rounds T, T.F__law_rounds.binds fun _ _ _ _ _ _ => .all fun us hl => match us, hl with | [_], _ => rfl, .nil⟩⟩
def sp_time : Sp := fun vs H Q _ => ∃ (l : Addr) (d n : Int) (rs : List Int), vs = [.int d, .int n, .ref l] /\ LAt H l (rs.map PyData.int) /\ rs.length <= 6 /\ (∀ r ∈ rs, 2 <= r /\ r <= 60) /\ 0 <= n /\ n < 10 ^ 30 /\ ∀ H' t, Same H H' -> n < t -> t <= 10 ^ 60 -> Q (.int t) H'
theorem ok_time (T : Txt K mg a) : FnOk P w K mg base CX0 2 a.f__law_time a.fd__law_time ["_law_draw", "_law_now", "_law_rounds_here"] sp_time := by
 refine T.F__law_time.ok sc__law_time (fun vs H Q E h => ?_) (fun cdv A outer s H vs Q E hr h => ?_)
 . obtain ⟨_, _, _, _, rfl, _⟩ := h; rfl
 . obtain ⟨l, d, n, rs, rfl, hl, h6, hrs, hn0, hn1, q⟩ := h
   refine ⟨_, (pss_cut (ps_set (i := 3) sc__law_time.nd rfl (Or.inl rfl) (pe_op op_modP (pv 0) pe_int))
    (pss_cut (ps_set (i := 4) sc__law_time.nd rfl (Or.inl rfl) (pe_op op_fdivB (pv 0) pe_int))
    (pss_cut (ps_if (pt_cmpR op_lt (pv 3) pe_int (nomark _))
     (pss_one (ps_ret (pe_op op_add (pe_op op_add (pv 1) pe_int) (pe_op op_modP (pv 4) (pe_ix ix_K (pe_lstD (pa_cons pe_int (pa_cons pe_int (pa_cons (pe_op op_pow pe_int pe_int) (pa_cons (pe_op op_pow pe_int pe_int) (pa_cons (pe_op op_pow pe_int pe_int) pa_nil)))))) (pv 3) (fun _ _ => rfl))))))
     pss_nil)
    (pss_cut (ps_set (i := 5) sc__law_time.nd rfl (Or.inl rfl) pe_int)
    (pss_cut (ps_for PassesOwn.never rfl (pi_list (pe_slice sl_list (pv 2) po_none (po_some (pe_op op_modP (pv 4) pe_int)))) (pg_name (i := 6) sc__law_time.nd rfl (Or.inl rfl))
     (pss_one (ps_set (i := 5) sc__law_time.nd rfl (Or.inl rfl) (pe_op op_mulB (pv 5) (pv 6)))))
    (pss_one (ps_ret (pe_callB (call_maxP rfl) rfl T.no_max PyProof.Rows.boot_max (pa_cons (pe_op op_add (pv 1) pe_int) (pa_cons (pe_op op_sub (pe_op op_add (pe_op op_mulB (pe_op op_add (pe_op op_add (pe_op op_fdivB (pv 1) (pv 5)) pe_int) (pe_op op_modP (pe_op op_fdivB (pv 4) pe_int) pe_int)) (pv 5)) (pe_op op_modP (pe_op op_fdivB (pv 4) pe_int) pe_int)) pe_int) pa_nil)))))))))), ?_⟩
   repeat' (walk_at "rd1")
   . rename_i pl H1 sm1 hn1 hq1
     refine r_ixN (ns := [9, 300, 10 ^ 6, 10 ^ 14, 10 ^ 37]) hq1.dv (by omega) (by show d % 7 < 5; omega) (fun b hb => ?_)
     have hb' : 0 < b /\ b <= 10 ^ 37 := by
      simp only [List.mem_cons, List.not_mem_nil, or_false] at hb
      rcases hb with rfl | rfl | rfl | rfl | rfl <;> exact ⟨by decide, by decide⟩
     obtain ⟨hb0, hb1⟩ := hb'
     repeat' (walk_at "rd1")
     exact q _ _ sm1 (by omega) (by omega)
   . rename_i c0 c1
     obtain ⟨j, hj⟩ := Int.eq_ofNat_of_zero_le c0
     rw [hj]
     refine r_cutT j hl (fun pl H1 sm1 hn1 hq1 => ?_)
     rw [<- List.map_take] at hq1
     refine forDB (Hb := H1) (cs := rs.take j) (gd := PyData.int) hq1.dv (fun i σ' H' => H' = H1 /\ ∃ z, σ' = [some (.int d), some (.int n), some (.ref l), some (.int (d % 7)), some (.int (d / 7)), some (.int (prodOf 1 ((rs.take j).take i))), z]) ⟨rfl, _, rfl⟩ (fun i σ' H' _ ⟨e, _⟩ a' xs _ hx => by rw [e]; exact hx) ?_ ?_
     . rintro i r x σ' H' hi ⟨rfl, z, rfl⟩ hdx _
       obtain rfl := (hdx rfl (Mv.refl (S := [])).tp).int_inv
       have hr2 := hrs r (List.mem_of_mem_take (List.mem_of_getElem? hi))
       obtain ⟨hu0, hu1⟩ := prod_bnd ((rs.take j).take i) 1 (by decide) fun r hr' => hrs r (List.mem_of_mem_take (List.mem_of_mem_take hr'))
       have htl : ((rs.take j).take i).length <= 6 := by rw [List.length_take, List.length_take]; omega
       have hu2 : prodOf 1 ((rs.take j).take i) <= 10 ^ 12 := by have := pow60 htl; omega
       have e2 : prodOf 1 ((rs.take j).take (i + 1)) = prodOf 1 ((rs.take j).take i) * r := by rw [List.take_add_one, hi, <- prodOf_snoc]; rfl
       rw [e2]
       generalize prodOf 1 ((rs.take j).take i) = u at *
       repeat' (walk_at "rd1")
       exact ⟨rfl, _, rfl⟩
     . rintro σ' H' ⟨rfl, z, rfl⟩
       obtain ⟨hu0, hu1⟩ := prod_bnd ((rs.take j).take (rs.take j).length) 1 (by decide) fun r hr' => hrs r (List.mem_of_mem_take (List.mem_of_mem_take hr'))
       have htl : ((rs.take j).take (rs.take j).length).length <= 6 := by rw [List.length_take, List.length_take]; omega
       have hu2 : prodOf 1 ((rs.take j).take (rs.take j).length) <= 10 ^ 12 := by have := pow60 htl; omega
       generalize prodOf 1 ((rs.take j).take (rs.take j).length) = u at *
       have hd0 : 0 <= n / u := Int.ediv_nonneg hn0 (Int.le_of_lt hu0)
       have hd1 : n / u <= n := Int.ediv_le_self u hn0
       have hm : (n / u + 1 + d / 7 / 7 % 4) * u <= (10 ^ 30 + 5) * 10 ^ 12 := Int.mul_le_mul (by omega) hu2 (by omega) (by decide)
       repeat' (walk_at "rd1")
       exact q _ _ sm1 (by omega) (by omega)
theorem cal_time (T : Txt K mg a) : Cal P w K mg base 2 a.f__law_time ["_law_draw", "_law_now", "_law_rounds_here"] [] sp_time :=
 ⟨⟨_, _, ok_time T, T.F__law_time.binds fun _ _ _ _ _ _ => .all fun us hl => match us, hl with | [_, _, _], _ => rfl, .nil⟩⟩
def GoodT (n : Int) (ts : List (Str × Int)) : Prop := ∀ x ∈ ts, NmT x.1 /\ n < x.2 /\ x.2 <= 10 ^ 60
def itm (x : Str × Int) : PyData := itemD (x.1, .int x.2)
def sp_things : Sp := fun vs H Q _ => ∃ (l lr : Addr) (n st wy : Int) (cs rs : List Int), vs = [.ref l, .int n, .ref lr, .int st, .int wy] /\ LAt H l (cs.map PyData.int) /\ cs.length <= 49 /\ LAt H lr (rs.map PyData.int) /\ rs.length <= 6 /\ (∀ r ∈ rs, 2 <= r /\ r <= 60) /\ 0 <= n /\ n < 10 ^ 30 /\
 ∀ q H' ts, Same H H' -> H q = none -> LAt H' q (ts.map itm) -> GoodT n ts -> (ts.map (·.1)).Nodup -> ts.length <= 49 -> Q (.ref q) H'
theorem ok_things (T : Txt K mg a) : FnOk P w K mg base CX0 3 a.f__law_things a.fd__law_things ["_law_cells", "_law_now", "_law_rounds_here", "_law_style", "_law_way"] sp_things := by
 have c__law_draws := cal_draws (P := P) (w := w) (base := base) T
 have c__law_word := cal_word (P := P) (w := w) (base := base) T
 have c__law_name := cal_name (P := P) (w := w) (base := base) T
 have c__law_time := cal_time (P := P) (w := w) (base := base) T
 refine T.F__law_things.ok sc__law_things (fun vs H Q E h => ?_) (fun cdv A outer s H vs Q E hr h => ?_)
 . obtain ⟨_, _, _, _, _, _, _, rfl, _⟩ := h; rfl
 . obtain ⟨l, lr, n, st, wy, cs, rs, rfl, hl, hcl, hlr, h6, hrs, hn0, hn1, q⟩ := h
   refine ⟨_, (pss_cut (ps_set (i := 5) sc__law_things.nd rfl (Or.inl rfl) pe_dnewK)
    (pss_cut (ps_for PassesOwn.never rfl (pi_enum rfl T.no_enumerate (pa_cons (pv 0) pa_nil)) (pg_tup (n := 2) rfl (pgs_cons (pg_name (i := 6) sc__law_things.nd rfl (Or.inl rfl)) (pgs_cons (pg_name (i := 7) sc__law_things.nd rfl (Or.inl rfl)) pgs_nil)))
     (pss_cut (ps_set (i := 8) sc__law_things.nd rfl (Or.inl rfl) (pn_call c__law_draws (hr.mono (by decide)) rfl T.mg__law_draws T.kp__law_draws (pa_cons (pe_op op_add (pv 7) (pe_op op_mulB (pv 6) (pe_op op_modP (pv 4) pe_int))) (pa_cons pe_int (pa_cons (pv 4) pa_nil)))))
     (pss_cut (ps_set (i := 9) sc__law_things.nd rfl (Or.inl rfl) (pn_call c__law_word (hr.mono (by decide)) rfl T.mg__law_word T.kp__law_word (pa_cons (pe_ix ix_K (pv 8) pe_int (fun _ _ => rfl)) pa_nil)))
     (pss_cutM (ps_if (PW.pt (pw_or (pt_cmpR op_gt (pe_op op_modP (pv 3) pe_int) pe_int (nomark _)) (pw_or1 (pt_cmp (pc_din (hu_of hr) (pv 9) (pv 5)) rfl))))
      (pss_one (ps_set (i := 9) sc__law_things.nd rfl (Or.inl rfl) (pn_call c__law_name (hr.mono (by decide)) rfl T.mg__law_name T.kp__law_name (pa_cons (pv 6) (pa_cons (pe_op op_fdivB (pv 3) pe_int) pa_nil)))))
      pss_nil)
     (pss_one (ps_if (pt_cmp (pc_dnotin (hu_of hr) (pv 9) (pv 5)) rfl)
      (pss_one (ps_dput (hu_of hr) (pv 5) (pv 9) (pn_call c__law_time (hr.mono (by decide)) rfl T.mg__law_time T.kp__law_time (pa_cons (pe_ix ix_K (pv 8) pe_int (fun _ _ => rfl)) (pa_cons (pv 1) (pa_cons (pv 2) pa_nil)))) rfl))
      pss_nil))))))
    (pss_one (ps_ret (pe_listI (pv 5) rfl rfl T.no_list))))), ?_⟩
   repeat' (walk_at "rd1")
   rename_i q0 H1 sm1 hn1' hq1
   have hl1 := hl.keeps sm1
   have hlr1 := hlr.keeps sm1
   have hlq : l ≠ q0 := hl.ne hn1'
   have hrq : lr ≠ q0 := hlr.ne hn1'
   refine forEI (Hb := H1) hl1.dv (fun j σ' H' => ∃ ts z6 z7 z8 z9, σ' = [some (.ref l), some (.int n), some (.ref lr), some (.int st), some (.int wy), some (.ref q0), z6, z7, z8, z9] /\ Mv [q0] H1 H' /\ DAt H' q0 (tmD ts) /\ GoodT n ts /\ (ts.map (·.1)).Nodup /\ ts.length <= j) ⟨[], _, _, _, _, rfl, Mv.refl, hq1, (fun x h => nomatch h), .nil, Nat.le_refl _⟩ (fun i σ' H' _ ⟨_, _, _, _, _, _, mv, _⟩ a' xs e hx => by cases e; exact mv.sq (by simpa using hlq) hx) ?_ ?_
   . rintro i c t0 σ' H7 hc ⟨ts, z6, z7, z8, z9, rfl, mv7, hq7, hg, hnd, htl⟩ ht0
     have hi50 : i < 49 := by have := (List.getElem?_eq_some_iff.mp hc).1; omega
     have sm8 : Same H7 (upd H7 t0 (.tup [.int (i : Int), .int c])) := same_upd ht0
     have hpair : Dv (upd H7 t0 (.tup [.int (i : Int), .int c])) (.ref t0) (.tuple [.int (i : Int), .int c]) := .tup upd_same (.cons (.int _) (.cons (.int _) .nil))
     generalize upd H7 t0 (.tup [.int (i : Int), .int c]) = H8 at *
     refine r_unpP hpair (fun w1 w2 f1 f2 => ?_)
     obtain rfl := f1.int_inv
     obtain rfl := f2.int_inv
     have mv8 := mv7.stepS sm8
     have hq8 := hq7.keeps sm8
     have htl2 := tmD_len ts
     have hlr8 : LAt H8 lr (rs.map PyData.int) := hlr1.mv mv8 (by simpa using hrq)
     repeat' (walk_at "rd1")
     refine ⟨_, wy, 2, rfl, by decide, fun pd H9 ds sm9 hn9 hpd hdl hds => ?_⟩
     obtain ⟨d0, d1, rfl⟩ : ∃ d0 d1, ds = [d0, d1] := by
      match ds, hdl with
      | [d0, d1], _ => exact ⟨d0, d1, rfl⟩
     have hpd' : Dv H9 (.ref pd) (.list [.int d0, .int d1]) := hpd.dv
     have hq9 := hq8.keeps sm9
     have hlr9 := hlr8.keeps sm9
     repeat' (walk_at "rd1")
     refine ⟨_, rfl, fun x hx => ?_⟩
     refine r_cutM (fun σ' H' => H' = H9 /\ ∃ y : Str, NmT y /\ σ' = [some (.ref l), some (.int n), some (.ref lr), some (.int st), some (.int wy), some (.ref q0), some (.int (i : Int)), some (.int c), some (.ref pd), some (.str y)]) ?_ ?_
     . repeat' (walk_at "rd1")
       . refine ⟨_, _, rfl, by omega, by omega, fun y hy => ?_⟩
         repeat' (walk_at "rd1")
         exact ⟨rfl, y, hy, rfl⟩
       . refine ⟨_, _, rfl, by omega, by omega, fun y hy => ?_⟩
         repeat' (walk_at "rd1")
         exact ⟨rfl, y, hy, rfl⟩
       . exact ⟨rfl, x, hx, rfl⟩
     . rintro σ' H' ⟨rfl, y, hy, rfl⟩
       repeat' (walk_at "rd1")
       . rename_i o e hb
         have hyn : y ∉ ts.map (·.1) := fun z => by rw [e, tm_isSome.mpr z] at hb; cases hb
         refine ⟨lr, _, n, rs, rfl, hlr9, h6, hrs, hn0, hn1, fun H10 t sm10 ht0 ht1 => ?_⟩
         have hq10 := hq9.keeps sm10
         repeat' (walk_at "rd1")
         rename_i H11 mv11 hq11
         rw [putD_new (tm_none hyn), <- tmD_app] at hq11
         refine ⟨ts ++ [(y, t)], _, _, _, _, rfl, (((mv8.stepS sm9).stepS sm10)).trans mv11, hq11, fun z hz => ?_, nd_snoc hnd hyn, by rw [List.length_append]; simpa using htl⟩
         rcases List.mem_append.mp hz with hz | hz
         . exact hg z hz
         . rw [List.mem_singleton.mp hz]; exact ⟨hy, ht0, ht1⟩
       . exact ⟨ts, _, _, _, _, rfl, mv8.stepS sm9, hq9, hg, hnd, by omega⟩
   . rintro σ' H7 ⟨ts, z6, z7, z8, z9, rfl, mv7, hq7, hg, hnd, htl⟩
     repeat' (walk_at "rd1")
     refine r_listI hq7 (fun q2 H8 sm8 hn8 hq8 => ?_)
     repeat' (walk_at "rd1")
     have e : (tmD ts).map itemD = ts.map itm := by unfold tmD; rw [List.map_map]; rfl
     rw [e] at hq8
     exact q q2 H8 ts ((Mv.sameN sm1 mv7 hn1').trans sm8) (sm1.none (mv7.none hn8)) hq8 hg hnd (by omega)
theorem cal_things (T : Txt K mg a) : Cal P w K mg base 3 a.f__law_things ["_law_cells", "_law_now", "_law_rounds_here", "_law_style", "_law_way"] [] sp_things :=
 ⟨⟨_, _, ok_things T, T.F__law_things.binds fun _ _ _ _ _ _ => .all fun us hl => match us, hl with | [_, _, _, _, _], _ => rfl, .nil⟩⟩
def sp_to : Sp := fun vs H Q _ => ∃ (l : Addr) (n st c : Int) (ts : List (Str × Int)), vs = [.ref l, .int n, .int st, .int c] /\ LAt H l (ts.map itm) /\ GoodT n ts /\ 0 <= n /\ n < 10 ^ 30 /\ ∀ H' t, Same H H' -> n <= t -> Q (.int t) H'
theorem ok_to (T : Txt K mg a) : FnOk P w K mg base CX0 1 a.f__law_to a.fd__law_to ["_law_things_here", "_law_now", "_law_style", "_law_cell"] sp_to := by
 refine T.F__law_to.ok sc__law_to (fun vs H Q E h => ?_) (fun cdv A outer s H vs Q E hr h => ?_)
 . obtain ⟨_, _, _, _, _, rfl, _⟩ := h; rfl
 . obtain ⟨l, n, st, c, ts, rfl, hl, hg, hn0, hn1, q⟩ := h
   refine ⟨_, (pss_cut (ps_if (PW.pt (pw_or (pt_cmpR (op_eqA hr.hu8) (pv 0) (pe_lstD pa_nil) (nomark _)) (pw_or1 (pt_cmpR (op_eqA hr.hu8) (pe_op op_modP (pv 3) pe_int) pe_int (nomark _)))))
    (pss_one (ps_ret (pe_op op_add (pv 1) (pe_op op_modP (pe_op op_fdivB (pv 3) pe_int) (pe_op op_pow pe_int pe_int)))))
    pss_nil)
    (pss_cut (ps_set (i := 4) sc__law_to.nd rfl (Or.inl rfl) (pe_op op_sub (pe_ix ix_K (pe_ix ix_K (pv 0) (pe_op op_modP (pe_op op_fdivB (pv 3) pe_int) (pe_callB call_lenK rfl T.no_len PySem.boot_len (pa_cons (pv 0) pa_nil))) (fun _ _ => rfl)) pe_int (fun _ _ => rfl)) (pv 1)))
    (pss_one (ps_ret (pe_op op_add (pv 1) (pe_op op_fdivB (pe_op op_mulB (pv 4) (pe_op op_modP (pe_op op_fdivB (pv 3) pe_int) pe_int)) (pe_op op_add pe_int (pe_op op_modP (pe_op op_fdivB (pv 2) pe_int) pe_int)))))))), ?_⟩
   repeat' (walk_at "rd1")
   rename_i pl H1 sm1 hn1' hq1
   have hl1 := hl.keeps sm1
   refine r_eqNl hl1.dv hq1.dv (lay_all fun x hx => ?_) (Nat.le_trans (dep_all (n := 3) fun x hx => ?_) (by decide)) ?_
   . have := nm_lay (hg x hx).1
     simp only [itm, itemD, PyData.canLay0, PyData.canLayAll0, Bool.and_true, Bool.true_and] at this ⊢
     exact this
   . simp [itm, itemD, PyData.depth, PyData.depthAll]
   repeat' (walk_at "rd1")
   . exact q _ _ sm1 (by omega)
   . exact q _ _ sm1 (by omega)
   . rename_i hne _ _ _
     have hpos : 0 < ts.length := by
      cases ts with
      | nil => cases hne
      | cons => simp
     repeat' (walk_at "rd1")
     rename_i i0 i1 _ _ m0 m1
     have hgt : ts.getD (c / 4 % ↑ts.length).toNat default ∈ ts := by
      have hlt : (c / 4 % ↑ts.length).toNat < ts.length := by omega
      rw [List.getD_eq_getElem?_getD, List.getElem?_eq_getElem hlt]
      exact List.getElem_mem hlt
     obtain ⟨_, g1, g2⟩ := hg _ hgt
     generalize (ts.getD (c / 4 % ↑ts.length).toNat default).2 = t at *
     have hm : 0 <= (t - n) * (c / 240 % 13) := Int.mul_nonneg (by omega) m0
     repeat' (walk_at "rd1")
     have := Int.ediv_nonneg hm (by omega : 0 <= 1 + st / 520 % 3)
     exact q _ _ sm1 (by omega)
theorem cal_to (T : Txt K mg a) : Cal P w K mg base 1 a.f__law_to ["_law_things_here", "_law_now", "_law_style", "_law_cell"] [] sp_to :=
 ⟨⟨_, _, ok_to T, T.F__law_to.binds fun _ _ _ _ _ _ => .all fun us hl => match us, hl with | [_, _, _, _], _ => rfl, .nil⟩⟩
theorem q_off {p d m q : Addr} {G G' : Geo} {H : Hp} (h : q ∉ p :: d :: m :: G.foot) (hs : ∀ b ∈ G'.foot, b ∈ G.foot \/ H b = none) (hq : H q ≠ none) : q ∉ p :: d :: m :: G'.foot := fun z => by
 simp only [List.mem_cons, not_or] at h z
 obtain ⟨h1, h2, h3, h4⟩ := h
 rcases z with z | z | z | z
 . exact h1 z
 . exact h2 z
 . exact h3 z
 . exact (hs q z).elim h4 hq
def zer (ts : List (Str × Int)) : List (Str × Int) := ts.map fun x => (x.1, 0)
theorem zer_app (ts : List (Str × Int)) (x : Str) (t : Int) : zer (ts ++ [(x, t)]) = zer ts ++ [(x, 0)] := by unfold zer; rw [List.map_append]; rfl
def sp_made (C CW : Addr) : Sp := fun vs H Q _ => ∃ (lr lt : Addr) (n : Int) (rs : List Int) (ts : List (Str × Int)), vs = [.ref lr, .int n, .ref lt] /\ LAt H lr (rs.map PyData.int) /\ 1 <= rs.length /\ rs.length <= 6 /\ (∀ r ∈ rs, 2 <= r /\ r <= 60) /\ 0 <= n /\ LAt H lt (ts.map itm) /\ GoodT n ts /\ (ts.map (·.1)).Nodup /\ ts.length <= 49 /\
 ∀ p d m G H', Same H H' -> (∀ b ∈ p :: d :: m :: G.foot, H b = none) -> Wss C CW H' p d m n (unitsOf 1 rs) G ts (zer ts) -> Q (.ref p) H'
theorem ok_made (T : Txt K mg a) : FnOk P w K mg base CX0 8 a.f__law_made a.fd__law_made ["_law_rounds_here", "_law_now", "_law_things_here"] (sp_made a.C_Wheels a.C_Wheel) := by
 have c_Wheels_1 := cal_Wheels_1 (P := P) (w := w) (base := base) T
 have c_Wheels_2 := cal_Wheels_2 (P := P) (w := w) (base := base) T
 have c_Wheels_put := (cal_put (P := P) (w := w) (base := base) T).calm
 refine T.F__law_made.ok sc__law_made (fun vs H Q E h => ?_) (fun cdv A outer s H vs Q E hr h => ?_)
 . obtain ⟨_, _, _, _, _, rfl, _⟩ := h; rfl
 . obtain ⟨lr, lt, n, rs, ts, rfl, hlr, h1, h6, hrs, hn0, hlt, hg, hnd, htl, q⟩ := h
   refine ⟨_, (pss_cut (ps_set (i := 3) sc__law_made.nd rfl (Or.inl rfl) (pd_make T.M_Wheels c_Wheels_1 (hr.mono (by decide)) rfl T.mg_Wheels passND (pa_cons (pe_callTy call_listOf rfl T.no_list PyProof.Rows.boot_list (pa_cons (pv 0) pa_nil)) pa_nil)))
    (pss_cutM (ps_if (pt_cmpR op_gt (pv 1) pe_int (nomark _))
     (pss_one (ps_set (i := 3) sc__law_made.nd rfl (Or.inl rfl) (pd_make T.M_Wheels c_Wheels_2 (hr.mono (by decide)) rfl T.mg_Wheels passND (pa_cons (pe_callTy call_listOf rfl T.no_list PyProof.Rows.boot_list (pa_cons (pv 0) pa_nil)) (pa_cons (pv 1) pa_nil)))))
     pss_nil)
    (pss_cut (ps_for PassesOwn.never rfl (pi_list (pv 2)) (pg_tup (n := 2) rfl (pgs_cons (pg_name (i := 4) sc__law_made.nd rfl (Or.inl rfl)) (pgs_cons (pg_name (i := 5) sc__law_made.nd rfl (Or.inl rfl)) pgs_nil)))
     (pss_one (ps_expr (pn_meth (pv 3) T.cl_Wheels T.m_Wheels_put c_Wheels_put (hr.mono (by decide)) (pa_cons (pv 4) (pa_cons (pv 5) pa_nil))))))
    (pss_one (ps_ret (pv 3)))))), ?_⟩
   repeat' (walk_at "rd1")
   rename_i pl H1 sm1 hn1 hq1
   refine u_wsmake rfl hq1 h1 h6 hrs (fun x d m G0 H2 sm2 hf2 hw2 => ?_)
   have hlr2 := (hlr.keeps sm1).keeps sm2
   repeat' (walk_at "rd1")
   refine r_cutM (fun σ' H' => ∃ x d m G, σ' = [some (.ref lr), some (.int n), some (.ref lt), some (.ref x), none, none] /\ Same H H' /\ (∀ b ∈ x :: d :: m :: G.foot, H b = none) /\ Wss a.C_Wheels a.C_Wheel H' x d m n (unitsOf 1 rs) G [] []) ?_ ?_
   . repeat' (walk_at "rd1")
     . rename_i pl3 H3 sm3 hn3 hq3
       refine u_wsmake rfl hq3 h1 h6 hrs (fun x d m G0 H4 sm4 hf4 hw4 => ?_)
       repeat' (walk_at "rd1")
       exact ⟨x, d, m, G0, rfl, ((sm1.trans sm2).trans sm3).trans sm4, fun b hb => ((sm1.trans sm2).trans sm3).none (hf4 b hb), hw4⟩
     . rename_i hb
       have e : n = 0 := by omega
       subst e
       exact ⟨x, d, m, G0, rfl, sm1.trans sm2, fun b hb => sm1.none (hf2 b hb), hw2⟩
   . rintro σ' H3 ⟨x, d, m, G0, rfl, sm3, hf3, hw3⟩
     repeat' (walk_at "rd1")
     refine forDB (Hb := H) (cs := ts) (gd := itm) hlt.dv (fun j σ' H' => ∃ G z4 z5, σ' = [some (.ref lr), some (.int n), some (.ref lt), some (.ref x), z4, z5] /\ Same H H' /\ (∀ b ∈ x :: d :: m :: G.foot, H b = none) /\ Wss a.C_Wheels a.C_Wheel H' x d m n (unitsOf 1 rs) G (ts.take j) (zer (ts.take j))) ⟨G0, _, _, rfl, sm3, hf3, hw3⟩ (fun i σ' H' _ ⟨_, _, _, _, sm, _⟩ a' xs e hx => by cases e; exact Same.seq sm hx) ?_ ?_
     . rintro j ⟨y, t⟩ v σ' H4 hj ⟨G, z4, z5, rfl, sm4, hf4, hw4⟩ hdx _
       have hd : Dv H4 v (.tuple [.str y, .int t]) := hdx rfl (sm4.mv (S := [])).tp
       refine r_unpP hd (fun u1 u2 f1 f2 => ?_)
       obtain rfl := f1.str_inv
       obtain rfl := f2.int_inv
       have hi4 := hw4.ws.ins
       have hmem := List.mem_of_getElem? hj
       obtain ⟨g1, g2, g3⟩ := hg _ hmem
       have hyn : y ∉ (ts.take j).map (·.1) := nd_take hnd hj
       have htk : (ts.take j).length <= 49 := by rw [List.length_take]; omega
       repeat' (walk_at "rd1")
       refine ⟨x, d, m, n, _, G, _, _, y, t, rfl, hw4, by omega, g1, fun h => absurd h hyn, fun _ h => absurd h (by omega), fun _ _ H5 G5 mv5 hw5 hs5 => ?_⟩
       repeat' (walk_at "rd1")
       refine ⟨G5, _, _, rfl, same_mv sm4 mv5 fun b hb => hf4 b (List.mem_cons_of_mem _ hb), fun b hb => ?_, ?_⟩
       . simp only [List.mem_cons] at hb hf4
         rcases hb with hb | hb | hb | hb
         . exact hf4 b (.inl hb)
         . exact hf4 b (.inr (.inl hb))
         . exact hf4 b (.inr (.inr (.inl hb)))
         . rcases hs5 b hb with r | r
           . exact hf4 b (.inr (.inr (.inr r)))
           . exact sm4.none r
       . rw [take_snoc hj, zer_app]; exact hw5
     . rintro σ' H4 ⟨G, z4, z5, rfl, sm4, hf4, hw4⟩
       rw [List.take_length] at hw4
       repeat' (walk_at "rd1")
       exact q x d m G H4 sm4 hf4 hw4
theorem cal_made (T : Txt K mg a) : Cal P w K mg base 8 a.f__law_made ["_law_rounds_here", "_law_now", "_law_things_here"] [] (sp_made a.C_Wheels a.C_Wheel) :=
 ⟨⟨_, _, ok_made T, T.F__law_made.binds fun _ _ _ _ _ _ => .all fun us hl => match us, hl with | [_, _, _], _ => rfl, .nil⟩⟩
def Went (us : List (Int × Int)) (n t : Int) (ts mvs : List (Str × Int)) : Prop := ∀ x u v, (x, u) ∈ ts -> t < u -> (x, v) ∈ mvs -> 0 <= v /\ (0 < v ↔ wAt us u t < wAt us u n)
theorem wle {us : List (Int × Int)} {n t u : Int} (hc : Ch us) (hnt : n <= t) (h : t < u) : wAt us u t <= wAt us u n := by
 by_cases c : Out us n t u
 . exact Nat.le_of_lt (down hc hnt c h)
 . exact Nat.le_of_eq (stay hc c).2
theorem went_zer {us : List (Int × Int)} {n : Int} {ts : List (Str × Int)} : Went us n n ts (zer ts) := fun x u v _ _ hv => by
 obtain ⟨y, _, e⟩ := List.mem_map.mp hv
 cases e
 exact ⟨Int.le_refl _, by simp⟩
theorem went_step {us : List (Int × Int)} {n t t' : Int} {ts mvs mvs' : List (Str × Int)} (hc : Ch us) (hnd : (ts.map (·.1)).Nodup) (hnt : n <= t) (htt : t <= t') (h : Went us n t ts mvs) (hm : Moved us t t' (ts.filter fun y => decide (t < y.2)) mvs mvs') : Went us n t' ts mvs' := fun x u v hu htu hv => by
 obtain ⟨u2, v0, h1, h2, h3, rfl⟩ := (hm x v).mp hv
 obtain ⟨h4, h5⟩ := List.mem_filter.mp h1
 obtain rfl := nd_one hnd h4 hu
 obtain ⟨a1, a2⟩ := h x u2 v0 h4 (by omega) h3
 have b1 := wle hc htt h2
 have b2 := wle (n := n) (t := t) (u := u2) hc hnt (by omega)
 by_cases c : wAt us u2 t' < wAt us u2 t
 . rw [if_pos c]
   exact ⟨by omega, fun _ => by omega, fun _ => by omega⟩
 . rw [if_neg c]
   refine ⟨by omega, ?_⟩
   rw [show wAt us u2 t' = wAt us u2 t by omega, Int.add_zero]
   exact a2
structure Run (C CW : Addr) (Hb H : Hp) (p d m : Addr) (G0 : Geo) (n : Int) (us : List (Int × Int)) (ts : List (Str × Int)) (t : Int) (l : Addr) (ks : List (Int × Str)) (G : Geo) (mvs : List (Str × Int)) : Prop where
 mv : Mv (p :: d :: m :: G0.foot) Hb H
 ln : Hb l = none
 lf : l ∉ p :: d :: m :: G.foot
 pm : ks.Perm ((ts.filter fun y => decide (y.2 <= t)).map swp)
 st : Srt ks
 la : LAt H l (ks.map pairD)
 hw : Wss C CW H p d m t us G (ts.filter fun y => decide (t < y.2)) mvs
 wt : Went us n t ts mvs
 ft : ∀ b ∈ G.foot, b ∈ G0.foot \/ Hb b = none
 nt : n <= t
section
variable {C CW : Addr} {Hb H H1 H2 : Hp} {p d m l l1 l2 : Addr} {G0 G G1 : Geo} {n t t' : Int} {us : List (Int × Int)} {ts mvs mvs1 : List (Str × Int)} {ks ks1 : List (Int × Str)}
theorem Run.keeps (sm : Same H H1) (h : Run C CW Hb H p d m G0 n us ts t l ks G mvs) : Run C CW Hb H1 p d m G0 n us ts t l ks G mvs := ⟨h.mv.stepS sm, h.ln, h.lf, h.pm, h.st, h.la.keeps sm, h.hw.keeps sm, h.wt, h.ft, h.nt⟩
theorem fil_fil (ts : List (Str × Int)) (htt : t <= t') : (ts.filter fun y => decide (t < y.2)).filter (fun y => decide (t' < y.2)) = ts.filter fun y => decide (t' < y.2) := by
 rw [List.filter_filter]
 refine List.filter_congr fun x _ => ?_
 rw [Bool.eq_iff_iff, Bool.and_eq_true, decide_eq_true_eq, decide_eq_true_eq]
 omega
theorem fil_perm (htt : t <= t') : ∀ ts : List (Str × Int), ((ts.filter fun y => decide (y.2 <= t)) ++ (ts.filter fun y => decide (t < y.2)).filter fun y => decide (y.2 <= t')).Perm (ts.filter fun y => decide (y.2 <= t'))
 | [] => .refl _
 | x :: r => by
   have ih := fil_perm htt r
   by_cases c : x.2 <= t
   . have c1 : ¬ t < x.2 := by omega
     have c2 : x.2 <= t' := by omega
     simp only [List.filter_cons, c, c1, c2, decide_true, decide_false, if_true, Bool.false_eq_true, if_false, List.cons_append]
     exact ih.cons x
   . have c1 : t < x.2 := by omega
     by_cases c2 : x.2 <= t'
     . simp only [List.filter_cons, c, c1, c2, decide_true, decide_false, if_true, Bool.false_eq_true, if_false]
       exact List.perm_middle.trans (ih.cons x)
     . simp only [List.filter_cons, c, c1, c2, decide_true, decide_false, if_true, Bool.false_eq_true, if_false]
       exact ih
theorem ltIS_far {c e : Int × Str} (h : c.1 < e.1) : ltIS e c = false := by
 unfold ltIS
 rw [decide_eq_false (by omega), decide_eq_false (by omega)]; rfl
theorem Run.go (hc : Ch us) (hnd : (ts.map (·.1)).Nodup) (htt : t <= t') (h : Run C CW Hb H p d m G0 n us ts t l ks G mvs)
 (mv1 : Mv (p :: d :: m :: G.foot) H H1) (hp1 : ks1.Perm (((ts.filter fun y => decide (t < y.2)).filter fun y => decide (y.2 <= t')).map swp)) (hs1 : Srt ks1)
 (hw1 : Wss C CW H1 p d m t' us G1 ((ts.filter fun y => decide (t < y.2)).filter fun y => decide (t' < y.2)) mvs1) (hm1 : Moved us t t' (ts.filter fun y => decide (t < y.2)) mvs mvs1) (hf1 : ∀ b ∈ G1.foot, b ∈ G.foot \/ H b = none)
 (sm2 : Same H1 H2) (hn2 : H1 l2 = none) (hl2 : LAt H2 l2 ((ks ++ ks1).map pairD)) : Run C CW Hb H2 p d m G0 n us ts t' l2 (ks ++ ks1) G1 mvs1 := by
 rw [fil_fil ts htt] at hw1
 have hin : ∀ b ∈ p :: d :: m :: G.foot, b ∈ p :: d :: m :: G0.foot \/ Hb b = none := fun b hb => by
  simp only [List.mem_cons] at hb ⊢
  rcases hb with hb | hb | hb | hb
  . exact .inl (.inl hb)
  . exact .inl (.inr (.inl hb))
  . exact .inl (.inr (.inr (.inl hb)))
  . exact (h.ft b hb).imp (fun z => .inr (.inr (.inr z))) id
 refine ⟨(Mv.step h.mv mv1 hin).stepS sm2, h.mv.none (mv1.none hn2), fun z => hw1.ws.alive l2 z hn2, ?_, ?_, hl2, hw1.keeps sm2, went_step hc hnd h.nt htt h.wt hm1, fun b hb => ?_, Int.le_trans h.nt htt⟩
 . have e := (fil_perm htt ts).map swp
   rw [List.map_append] at e
   exact (h.pm.append hp1).trans e
 . refine List.pairwise_append.mpr ⟨h.st, hs1, fun c hcm e hem => ltIS_far ?_⟩
   obtain ⟨x, hx, rfl⟩ := List.mem_map.mp (h.pm.mem_iff.mp hcm)
   obtain ⟨y, hy, rfl⟩ := List.mem_map.mp (hp1.mem_iff.mp hem)
   have h1 := of_decide_eq_true (List.mem_filter.mp hx).2
   have h2 := of_decide_eq_true (List.mem_filter.mp (List.mem_filter.mp hy).1).2
   show x.2 < y.2
   omega
 . rcases hf1 b hb with r | r
   . exact h.ft b r
   . exact .inr (h.mv.none r)
end
def RunP (C CW : Addr) (H : Hp) (p d m : Addr) (G : Geo) (n : Int) (us : List (Int × Int)) (ts : List (Str × Int)) (t : Int) (Q : VK) : Prop := ∀ H' l ks G' mvs, Run C CW H H' p d m G n us ts t l ks G' mvs -> Q (.ref l) H'
theorem run_zero {C CW : Addr} {H H1 : Hp} {p d m l : Addr} {G : Geo} {n : Int} {us : List (Int × Int)} {ts : List (Str × Int)} (hw : Wss C CW H p d m n us G ts (zer ts)) (hg : ∀ x ∈ ts, n < x.2) (sm : Same H H1) (hn : H l = none) (hl : LAt H1 l []) : Run C CW H H1 p d m G n us ts n l [] G (zer ts) := by
 have e1 : (ts.filter fun y => decide (y.2 <= n)) = [] := List.filter_eq_nil_iff.mpr fun x hx => by have := hg x hx; simp; omega
 have e2 : (ts.filter fun y => decide (n < y.2)) = ts := List.filter_eq_self.mpr fun x hx => decide_eq_true (hg x hx)
 refine ⟨sm.mv, hn, fun z => hw.ws.alive l z hn, by rw [e1]; exact .refl _, .nil, hl, by rw [e2]; exact hw.keeps sm, went_zer, fun b hb => .inl hb, Int.le_refl _⟩
theorem Run.stop {C CW : Addr} {Hb H H1 : Hp} {p d m l : Addr} {G0 G G1 : Geo} {n t t' : Int} {us : List (Int × Int)} {ts mvs mvs1 : List (Str × Int)} {ks : List (Int × Str)} (hc : Ch us) (hnd : (ts.map (·.1)).Nodup) (htt : t <= t') (hno : ∀ x ∈ ts, t < x.2 -> t' < x.2) (h : Run C CW Hb H p d m G0 n us ts t l ks G mvs)
 (mv1 : Mv (p :: d :: m :: G.foot) H H1) (hw1 : Wss C CW H1 p d m t' us G1 ((ts.filter fun y => decide (t < y.2)).filter fun y => decide (t' < y.2)) mvs1) (hm1 : Moved us t t' (ts.filter fun y => decide (t < y.2)) mvs mvs1) (hf1 : ∀ b ∈ G1.foot, b ∈ G.foot \/ H b = none) : Run C CW Hb H1 p d m G0 n us ts t' l ks G1 mvs1 := by
 rw [fil_fil ts htt] at hw1
 have hal : H l ≠ none := fun z => by
  obtain ⟨_, e, _⟩ := h.la
  rw [z] at e; cases e
 have e1 : (ts.filter fun y => decide (y.2 <= t')) = ts.filter fun y => decide (y.2 <= t) := List.filter_congr fun x hx => by
  have := hno x hx
  rw [Bool.eq_iff_iff, decide_eq_true_eq, decide_eq_true_eq]
  omega
 refine ⟨Mv.step h.mv mv1 fun b hb => ?_, h.ln, q_off h.lf hf1 hal, by rw [e1]; exact h.pm, h.st, h.la.mv mv1 h.lf, hw1, went_step hc hnd h.nt htt h.wt hm1, fun b hb => ?_, Int.le_trans h.nt htt⟩
 . simp only [List.mem_cons] at hb ⊢
   rcases hb with hb | hb | hb | hb
   . exact .inl (.inl hb)
   . exact .inl (.inr (.inl hb))
   . exact .inl (.inr (.inr (.inl hb)))
   . exact (h.ft b hb).imp (fun z => .inr (.inr (.inr z))) id
 . rcases hf1 b hb with r | r
   . exact h.ft b r
   . exact .inr (h.mv.none r)
theorem fil_len (f : Str × Int -> Bool) (ts : List (Str × Int)) : (ts.filter f).length <= ts.length := List.length_filter_le _ _
def sp_bysteps (K : PySem.W.Frag) (C CW : Addr) : Sp := fun vs H Q _ => ∃ (p d m l : Addr) (n t : Int) (us : List (Int × Int)) (G : Geo) (ts : List (Str × Int)) (ns : List Int), vs = [.ref p, .ref l, .int n, .int t] /\ Wss C CW H p d m n us G ts (zer ts) /\ Ch us /\ ts.length <= 49 /\ (∀ x ∈ ts, n < x.2) /\ SqL K H l (ns.map V.int) /\ n <= t /\ RunP C CW H p d m G n us ts t Q
theorem ok_bysteps (T : Txt K mg a) : FnOk P w K mg base CX0 7 a.f__law_by_steps a.fd__law_by_steps ["_law_told", "_law_script", "_law_now", "_law_to_here"] (sp_bysteps K a.C_Wheels a.C_Wheel) := by
 have c_Wheels_due := (cal_due (P := P) (w := w) (base := base) T).calm
 refine T.F__law_by_steps.ok sc__law_by_steps (fun vs H Q E h => ?_) (fun cdv A outer s H vs Q E hr h => ?_)
 . obtain ⟨_, _, _, _, _, _, _, _, _, _, rfl, _⟩ := h; rfl
 . obtain ⟨p, d, m, l, n, t, us, G, ts, ns, rfl, hw, hch, htl, hg, hl, hnt, q⟩ := h
   refine ⟨_, (pss_cut (ps_set (i := 4) sc__law_by_steps.nd rfl (Or.inl rfl) (pe_lstD pa_nil))
    (pss_cut (ps_for PassesOwn.never rfl (pi_list (pe_op op_cat (pe_callB call_sortI rfl T.no_sorted PyProof.Rows.boot_sorted (pa_cons (pe_lc (T := ["_law_cell"]) (M := ["_law_told", "_law_script", "_law_now", "_law_to_here", "_law_found", "_law_time_here"]) (lcn (defScope s__law_by_steps) ["_law_told", "_law_script", "_law_now", "_law_to_here", "_law_found", "_law_time_here"] rfl rfl (by decide +kernel)) rfl (pi_list (pe_slice sl_list (pv 1) (po_some pe_int) (po_some pe_int))) (fun _ _ _ _ _ => (pg_name (i := 0) (show List.Nodup (["_law_cell", "_law_told", "_law_script", "_law_now", "_law_to_here", "_law_found", "_law_time_here"] : List Str) by decide +kernel) rfl (Or.inl rfl))) (gown_name (by decide)) (fun _ _ _ _ _ => pif_nil) (fun _ _ _ _ _ => (pe_op op_add (pv 3) (pe_op op_modP (pv 0) (pe_op op_add (pe_op op_sub (pv 4) (pv 3)) pe_int))))) pa_nil)) (pe_lstD (pa_cons (pv 3) pa_nil)))) (pg_name (i := 5) sc__law_by_steps.nd rfl (Or.inl rfl))
     (pss_one (ps_set (i := 4) sc__law_by_steps.nd rfl (Or.inl rfl) (pe_op op_cat (pv 4) (pn_meth (pv 0) T.cl_Wheels T.m_Wheels_due c_Wheels_due (hr.mono (by decide)) (pa_cons (pv 5) pa_nil))))))
    (pss_one (ps_ret (pv 4))))), ?_⟩
   repeat' (walk_at "rd1")
   rename_i lf H1 sm1 hn1 hq1
   have hl1 : SqL K H1 l (ns.map V.int) := Same.seq sm1 hl
   refine r_cutN 9 13 hl1 (fun pc H2 sm2 hn2 hpc => ?_)
   have hclen : ((ns.drop 9).take (13 - 9)).length <= 4 := by rw [List.length_take]; omega
   generalize (ns.drop 9).take (13 - 9) = cs at *
   refine r_lc (cs := cs) (gd := PyData.int) (fun _ => true) (fun c => .int (n + c % (t - n + 1))) hpc.dv (by omega) (fun _ => rfl) (fun y c H3 N hc sm3 hy yes no => ?_) (fun q1 H3 sm3 hn3 hq3 => ?_)
   . obtain rfl := hy.int_inv
     repeat' (walk_at "rd1")
     refine r_lct (fun hb => ?_) (fun hb => by cases hb)
     repeat' (walk_at "rd1")
     exact yes rfl _ _ (Same.refl _) (.int _)
   rw [fil_all] at hq3
   have hq3' : Dv H3 (.ref q1) (.list ((cs.map fun c => n + c % (t - n + 1)).map PyData.int)) := by have := hq3.dv; rw [List.map_map]; exact this
   have hcb : ∀ c ∈ cs.map fun c => n + c % (t - n + 1), n <= c /\ c <= t := fun c hc => by
    obtain ⟨c0, _, rfl⟩ := List.mem_map.mp hc
    have h1 := Int.emod_nonneg c0 (by omega : t - n + 1 ≠ 0)
    have h2 := Int.emod_lt_of_pos c0 (by omega : 0 < t - n + 1)
    omega
   have hcl : (cs.map fun c => n + c % (t - n + 1)).length <= 4 := by rw [List.length_map]; exact hclen
   generalize (cs.map fun c => n + c % (t - n + 1)) = us0 at *
   repeat' (walk_at "rd1")
   refine r_sortI hq3' (by omega) (fun q2 H4 vs sm4 hn4 hvp hvs hq4 => ?_)
   have hvl : vs.length <= 4 := by rw [hvp.length_eq]; exact hcl
   have hll : (vs.map PyData.int).length = vs.length := List.length_map ..
   repeat' (walk_at "rd1")
   rename_i q5 H5 sm5 hn5 hq5 q6 H6 sm6 hn6 hq6
   have e6 : vs.map PyData.int ++ [PyData.int t] = (vs ++ [t]).map PyData.int := by rw [List.map_append]; rfl
   rw [e6] at hq6
   have hvb : ∀ v ∈ vs ++ [t], n <= v /\ v <= t := fun v hv => by
    rcases List.mem_append.mp hv with hv | hv
    . exact hcb v (hvp.mem_iff.mp hv)
    . rw [List.mem_singleton.mp hv]; omega
   have hvs' : (vs ++ [t]).Pairwise (· <= ·) := List.pairwise_append.mpr ⟨hvs, by simp, fun a ha b hb => by rw [List.mem_singleton.mp hb]; exact (hvb a (List.mem_append_left _ ha)).2⟩
   have sm06 : Same H H6 := ((((sm1.trans sm2).trans sm3).trans sm4).trans sm5).trans sm6
   have sm16 : Same H1 H6 := (((sm2.trans sm3).trans sm4).trans sm5).trans sm6
   have R0 := run_zero hw hg sm06 hn1 (hq1.keeps sm16)
   have h6n : H q6 = none := ((((sm1.trans sm2).trans sm3).trans sm4).trans sm5).none hn6
   have hla : (vs ++ [t])[vs.length]? = some t := by simp
   refine forDB (Hb := H6) (cs := vs ++ [t]) (gd := PyData.int) hq6.dv (fun j σ' H' => ∃ l1 u ks G' mvs z5, σ' = [some (.ref p), some (.ref l), some (.int n), some (.int t), some (.ref l1), z5] /\ Run a.C_Wheels a.C_Wheel H H' p d m G n us ts u l1 ks G' mvs /\ (∃ S, Mv S H6 H' /\ q6 ∉ S) /\ q6 ∉ p :: d :: m :: G'.foot /\ (∀ v ∈ (vs ++ [t]).drop j, u <= v) /\ (0 < j -> (vs ++ [t])[j - 1]? = some u)) ⟨lf, n, [], G, _, _, rfl, R0, ⟨[], Mv.refl, List.not_mem_nil⟩, fun z => hw.ws.alive q6 z h6n, fun v hv => (hvb v (List.mem_of_mem_drop hv)).1, fun h => absurd h (Nat.lt_irrefl _)⟩ (fun i σ' H' _ ⟨_, _, _, _, _, _, _, _, ⟨S, mv, hS⟩, _⟩ a' xs e hx => by cases e; exact mv.sq hS hx) ?_ ?_
   . rintro j v x σ' H7 hj ⟨l1, u, ks, G7, mvs, z5, rfl, R7, ⟨S, mv7, hS⟩, hq7, hdr, _⟩ hdx _
     obtain rfl := (hdx rfl mv7.tp).int_inv
     have hi7 := R7.hw.ws.ins
     have hf7 := fil_len (fun y => decide (u < y.2)) ts
     have huv : u <= v := hdr v (List.mem_of_getElem? (i := 0) (by rw [List.getElem?_drop]; exact hj))
     repeat' (walk_at "rd1")
     refine ⟨p, d, m, u, us, G7, _, mvs, v, rfl, R7.hw, hch, by omega, fun h => absurd h (by omega), fun _ l8 H8 G8 mvs8 ks8 mv8 hn8 hl8 hp8 hs8 hq8 hw8 hm8 hf8 => ?_⟩
     have hl1 : LAt H8 l1 (ks.map pairD) := R7.la.mv mv8 R7.lf
     have hk1 : (ks.map pairD).length <= 49 := by rw [List.length_map, R7.pm.length_eq, List.length_map]; exact Nat.le_trans (fil_len _ _) htl
     have hk2 : (ks8.map pairD).length <= 49 := by rw [List.length_map, hp8.length_eq, List.length_map]; exact Nat.le_trans (fil_len _ _) (Nat.le_trans hf7 htl)
     have hq7' : H7 q6 ≠ none := fun z => by
      obtain ⟨_, e, _⟩ := hq6
      rw [mv7.at hS e] at z; cases z
     repeat' (walk_at "rd1")
     rename_i l9 H9 sm9 hn9 hl9
     rw [<- List.map_append] at hl9
     have R9 := R7.go hch hw.nd huv mv8 hp8 hs8 hw8 hm8 hf8 sm9 hn9 hl9
     refine ⟨l9, v, _, G8, mvs8, _, rfl, R9, ⟨S ++ (p :: d :: m :: G7.foot), ?_, ?_⟩, q_off hq7 hf8 hq7', fun y hy => ?_, fun _ => hj⟩
     . exact ((mv_sub mv7 fun b hb => List.mem_append_left _ hb).trans (mv_sub mv8 fun b hb => List.mem_append_right _ hb)).stepS sm9
     . exact fun z => (List.mem_append.mp z).elim hS hq7
     . obtain ⟨i, hi⟩ := List.getElem?_of_mem hy
       rw [List.getElem?_drop] at hi
       obtain ⟨h1, e1⟩ := List.getElem?_eq_some_iff.mp hj
       obtain ⟨h2, e2⟩ := List.getElem?_eq_some_iff.mp hi
       have := List.pairwise_iff_getElem.mp hvs' j (j + 1 + i) h1 h2 (by omega)
       omega
   . rintro σ' H7 ⟨l1, u, ks, G7, mvs, z5, rfl, R7, _, _, hdr, hu⟩
     have e7 := hu (by simp)
     rw [List.length_append, List.length_singleton, Nat.add_sub_cancel, hla] at e7
     cases e7
     repeat' (walk_at "rd1")
     exact q _ _ _ _ _ R7
theorem cal_bysteps (T : Txt K mg a) : Cal P w K mg base 7 a.f__law_by_steps ["_law_told", "_law_script", "_law_now", "_law_to_here"] [] (sp_bysteps K a.C_Wheels a.C_Wheel) :=
 ⟨⟨_, _, ok_bysteps T, T.F__law_by_steps.binds fun _ _ _ _ _ _ => .all fun us hl => match us, hl with | [_, _, _, _], _ => rfl, .nil⟩⟩
def sp_byleasts (C CW : Addr) : Sp := fun vs H Q _ => ∃ (p d m : Addr) (n t : Int) (us : List (Int × Int)) (G : Geo) (ts : List (Str × Int)), vs = [.ref p, .int t] /\ Wss C CW H p d m n us G ts (zer ts) /\ Ch us /\ ts.length <= 49 /\ (∀ x ∈ ts, n < x.2 /\ NmT x.1) /\ n <= t /\ RunP C CW H p d m G n us ts t Q
theorem ok_byleasts (T : Txt K mg a) : FnOk P w K mg base CX0 7 a.f__law_by_leasts a.fd__law_by_leasts ["_law_told", "_law_to_here"] (sp_byleasts a.C_Wheels a.C_Wheel) := by
 have c_Wheels_due := (cal_due (P := P) (w := w) (base := base) T).calm
 have c_Wheels_least := cal_least (P := P) (w := w) (base := base) T
 refine T.F__law_by_leasts.ok sc__law_by_leasts (fun vs H Q E h => ?_) (fun cdv A outer s H vs Q E hr h => ?_)
 . obtain ⟨_, _, _, _, _, _, _, _, rfl, _⟩ := h; rfl
 . obtain ⟨p, d, m, n, t, us, G, ts, rfl, hw, hch, htl, hg, hnt, q⟩ := h
   refine ⟨_, (pss_cut (ps_set (i := 2) sc__law_by_leasts.nd rfl (Or.inl rfl) (pe_lstD pa_nil))
    (pss_cut (ps_for PassesOwn.never rfl (pi_range1 rfl T.no_range (pa_cons pe_int pa_nil)) (pg_name (i := 3) sc__law_by_leasts.nd rfl (Or.inl rfl))
     (pss_cut (ps_set (i := 4) sc__law_by_leasts.nd rfl (Or.inr rfl) (pn_meth0 (pv 0) T.cl_Wheels T.m_Wheels_least c_Wheels_least (hr.mono (by decide))))
     (pss_cut (ps_if (PW.pt (pw_or (pt_cmpR op_isN (pv 4) pe_non (nomark _)) (pw_or1 (pt_cmpR op_gt (pv 4) (pv 1) (nomark _)))))
      (pss_cut (ps_expr (pn_meth (pv 0) T.cl_Wheels T.m_Wheels_due c_Wheels_due (hr.mono (by decide)) (pa_cons (pv 1) pa_nil)))
      (pss_one (ps_ret (pv 2))))
      pss_nil)
     (pss_cut (ps_set (i := 5) sc__law_by_leasts.nd rfl (Or.inl rfl) (pn_meth (pv 0) T.cl_Wheels T.m_Wheels_due c_Wheels_due (hr.mono (by decide)) (pa_cons (pv 4) pa_nil)))
     (pss_cut (ps_lc (i := 6) sc__law_by_leasts.nd rfl (Or.inl rfl) (T := ["_law_pair"]) (M := ["_law_told", "_law_to_here", "_law_found", "_law_k", "_law_least", "_law_some", "_law_others"]) (lcn (defScope s__law_by_leasts) ["_law_told", "_law_to_here", "_law_found", "_law_k", "_law_least", "_law_some", "_law_others"] rfl rfl (by decide +kernel)) rfl (pi_list (pv 5)) (fun _ _ _ _ _ => (pg_name (i := 0) (show List.Nodup (["_law_pair", "_law_told", "_law_to_here", "_law_found", "_law_k", "_law_least", "_law_some", "_law_others"] : List Str) by decide +kernel) rfl (Or.inl rfl))) (gown_name (by decide)) (fun _ _ _ _ _ => (pif_one (pt_cmpR (op_neK (K := K) rfl hr.hu8) (pe_ix (ix_KK (K := K) rfl) (pv 0) pe_int (fun _ _ => rfl)) (pv 5) (nomark _)))) (fun _ _ _ _ _ => (pv 0)) rfl)
     (pss_cut (ps_if (PW.pt (pw_or (pt_cmpR (op_eqA hr.hu8) (pv 5) (pe_lstD pa_nil) (nomark _)) (pw_or1 (pt_cmpR (op_neA hr.hu8) (pv 6) (pe_lstD pa_nil) (nomark _)))))
      (pss_one (ps_ret pe_non))
      pss_nil)
     (pss_one (ps_set (i := 2) sc__law_by_leasts.nd rfl (Or.inl rfl) (pe_op op_cat (pv 2) (pv 5))))))))))
    (pss_one (ps_ret pe_non)))), ?_⟩
   repeat' (walk_at "rd1")
   rename_i lf H1 sm1 hn1 hq1
   have R0 := run_zero hw (fun x hx => (hg x hx).1) sm1 hn1 hq1
   refine for_range (fun j σ' H' => ∃ l u ks G' mvs z4 z5 z6 z7, σ' = [some (.ref p), some (.int t), some (.ref l), z4, z5, z6, z7] /\ Run a.C_Wheels a.C_Wheel H H' p d m G n us ts u l ks G' mvs /\ u <= t /\ (ts.filter fun y => decide (u < y.2)).length + j <= 49) ⟨lf, n, [], G, _, _, _, _, _, rfl, R0, hnt, ?_⟩ ?_ ?_
   . have := fil_len (fun y => decide (n < y.2)) ts
     omega
   . rintro j σ' H2 hj ⟨l, u, ks, G2, mvs, z4, z5, z6, z7, rfl, R2, hut, hlj⟩
     have hi2 := R2.hw.ws.ins
     have hf60 := fil_len (fun y => decide (u < y.2)) ts
     repeat' (walk_at "rd1")
     refine ⟨p, d, m, u, G2, _, mvs, rfl, R2.hw.ws, fun e => ?_, fun v hv1 hv2 => ?_⟩
     . repeat' (walk_at "rd1")
       refine ⟨p, d, m, u, us, G2, _, mvs, t, rfl, R2.hw, hch, by omega, fun h => absurd h (by omega), fun _ l8 H8 G8 mvs8 ks8 mv8 hn8 hl8 hp8 hs8 hq8 hw8 hm8 hf8 => ?_⟩
       repeat' (walk_at "rd1")
       exact q _ _ _ _ _ (R2.stop hch hw.nd hut (fun x hx hux => absurd (List.mem_filter.mpr ⟨hx, decide_eq_true hux⟩) (by rw [e]; exact List.not_mem_nil)) mv8 hw8 hm8 hf8)
     . repeat' (walk_at "rd1")
       . rename_i htv
         refine ⟨p, d, m, u, us, G2, _, mvs, t, rfl, R2.hw, hch, by omega, fun h => absurd h (by omega), fun _ l8 H8 G8 mvs8 ks8 mv8 hn8 hl8 hp8 hs8 hq8 hw8 hm8 hf8 => ?_⟩
         repeat' (walk_at "rd1")
         exact q _ _ _ _ _ (R2.stop hch hw.nd hut (fun x hx hux => by have := hv2 x.2 (List.mem_map_of_mem (List.mem_filter.mpr ⟨hx, decide_eq_true hux⟩)); omega) mv8 hw8 hm8 hf8)
       . rename_i htv
         obtain ⟨x, hx, rfl⟩ := List.mem_map.mp hv1
         obtain ⟨hx1, hx2⟩ := List.mem_filter.mp hx
         have hx2 := of_decide_eq_true hx2
         refine ⟨p, d, m, u, us, G2, _, mvs, x.2, rfl, R2.hw, hch, by omega, fun h => absurd h (by omega), fun _ l8 H8 G8 mvs8 ks8 mv8 hn8 hl8 hp8 hs8 hq8 hw8 hm8 hf8 => ?_⟩
         have hk1 : (ks.map pairD).length <= 49 := by rw [List.length_map, R2.pm.length_eq, List.length_map]; exact Nat.le_trans (fil_len _ _) htl
         have hk2 : ks8.length <= 49 := by rw [hp8.length_eq, List.length_map]; exact Nat.le_trans (fil_len _ _) (Nat.le_trans hf60 htl)
         have hk2' : (ks8.map pairD).length <= 49 := by rw [List.length_map]; exact hk2
         have hk8 : ∀ k ∈ ks8, k.1 = x.2 /\ NmT k.2 := fun k hk => by
          obtain ⟨y, hy, rfl⟩ := List.mem_map.mp (hp8.mem_iff.mp hk)
          obtain ⟨hy1, hy2⟩ := List.mem_filter.mp hy
          have hy2 := of_decide_eq_true hy2
          have := hv2 y.2 (List.mem_map_of_mem hy1)
          exact ⟨by show y.2 = x.2; omega, (hg y (List.mem_filter.mp hy1).1).2⟩
         have hne : ks8.isEmpty = false := by
          have hin : swp x ∈ ks8 := hp8.mem_iff.mpr (List.mem_map_of_mem (List.mem_filter.mpr ⟨hx, decide_eq_true (Int.le_refl _)⟩))
          cases ks8 with
          | nil => cases hin
          | cons => rfl
         have hl8' := R2.la.mv mv8 R2.lf
         repeat' (walk_at "rd1")
         refine r_lc (cs := ks8) (gd := pairD) (fun k => !decide (k.1 = x.2)) pairD hq8.dv (by omega) (fun _ => rfl) (fun y k H9 N hk sm9 hy yes no => ?_) (fun q1 H9 sm9 hn9 hq9 => ?_)
         . have hy : Dv H9 y (.tuple [.int k.1, .str k.2]) := hy
           have hkx := (hk8 k hk).1
           repeat' (walk_at "rd1")
           refine r_lct (fun hb => ?_) (fun hb => ?_)
           . exfalso
             simp [hkx] at hb
           . exact no (by simp [hkx]) H9 (Same.refl _)
         have e9 : (ks8.filter fun k => !decide (k.1 = x.2)) = [] := List.filter_eq_nil_iff.mpr fun k hk => by simp [(hk8 k hk).1]
         rw [e9] at hq9
         have hq8' := hq8.keeps sm9
         have hl9 := hl8'.keeps sm9
         repeat' (walk_at "rd1")
         rename_i e1 H10 sm10 hn10 hq10
         refine r_eqPN (hq8'.keeps sm10).dv hq10.dv (fun k hk => (hk8 k hk).2) ?_
         rw [hne]
         repeat' (walk_at "rd1")
         . rename_i hbad
           cases hbad
         rename_i e2 H11 sm11 hn11 hq11 _ l13 H13 sm13 hn13 hl13
         rw [<- List.map_append] at hl13
         have sm813 := ((sm9.trans sm10).trans sm11).trans sm13
         have R9 := R2.go hch hw.nd (Int.le_of_lt hx2) mv8 hp8 hs8 hw8 hm8 hf8 sm813 (((sm9.trans sm10).trans sm11).none hn13) hl13
         refine ⟨l13, x.2, _, G8, mvs8, _, _, _, _, rfl, R9, by omega, ?_⟩
         have hlt : (ts.filter fun y => decide (x.2 < y.2)).length < (ts.filter fun y => decide (u < y.2)).length := by
          rw [<- fil_fil ts (Int.le_of_lt hx2)]
          refine List.length_filter_lt_length_iff_exists.mpr ⟨x, hx, by simp⟩
         omega
   . rintro σ' H2 ⟨l, u, ks, G2, mvs, z4, z5, z6, z7, rfl, R2, hut, hlj⟩
     exfalso
     revert hlj
     show ¬ (_ + (Int.toNat 50) <= 49)
     have : Int.toNat 50 = 50 := rfl
     omega
theorem cal_byleasts (T : Txt K mg a) : Cal P w K mg base 7 a.f__law_by_leasts ["_law_told", "_law_to_here"] [] (sp_byleasts a.C_Wheels a.C_Wheel) :=
 ⟨⟨_, _, ok_byleasts T, T.F__law_by_leasts.binds fun _ _ _ _ _ _ => .all fun us hl => match us, hl with | [_, _], _ => rfl, .nil⟩⟩
theorem mask_one {us : List (Int × Int)} {n : Int} {ts : List (Str × Int)} {G G' : Geo} (h : GI us n ts G) (h' : GI us n ts G') {k : Nat} {y y' : Wh} (hy : G.ws[k]? = some y) (hy' : G'.ws[k]? = some y') : y.m = y'.m := by
 have e := (h.at hy).symm.trans (h'.at hy')
 obtain ⟨e1, e2⟩ := Prod.mk.inj (Option.some.inj e)
 have w := h.wh k y hy
 have w' := h'.wh k y' hy'
 have hin : ∀ {w0 : Wh} {B : Str -> Int -> Prop}, WhI w0 B -> ∀ j, (∃ c ∈ w0.cs, c.k = j) ↔ ∃ x, B x j := fun {w0 B} hw j => by
  constructor
  . rintro ⟨c, hc, rfl⟩
    obtain ⟨h1, _⟩ := hw.ne c hc
    cases hn : c.ns with
    | nil => exact absurd hn h1
    | cons x r => exact ⟨x, (hw.mem x c.k).mp ⟨c, hc, rfl, by rw [hn]; exact List.mem_cons_self⟩⟩
  . rintro ⟨x, hx⟩
    obtain ⟨c, hc, e, _⟩ := (hw.mem x j).mpr hx
    exact ⟨c, hc, e⟩
 have e3 : y.m.toNat = y'.m.toNat := Nat.eq_of_testBit_eq fun i => by
  rw [w.mk'.2, w'.mk'.2]
  refine any_slot ?_
  rw [hin w, hin w', e1, e2]
 have := w.mk'.1
 have := w'.mk'.1
 omega
def sp_liesas (C CW : Addr) : Sp := fun vs H Q _ => ∃ (p d m p' d' m' lr : Addr) (n : Int) (us : List (Int × Int)) (G G' : Geo) (ts mvs mvs' : List (Str × Int)) (rs : List Int), vs = [.ref p, .ref p', .ref lr] /\ Wss C CW H p d m n us G ts mvs /\ Wss C CW H p' d' m' n us G' ts mvs' /\ LAt H lr (rs.map PyData.int) /\ us.length = rs.length /\ rs.length <= 6 /\ ts.length <= 49 /\ (∀ x ∈ ts, NmT x.1) /\ ∀ H', Same H H' -> Q (.bl true) H'
theorem ok_liesas (T : Txt K mg a) : FnOk P w K mg base CX0 7 a.f__law_lies_as a.fd__law_lies_as ["_law_one", "_law_other", "_law_rounds_here"] (sp_liesas a.C_Wheels a.C_Wheel) := by
 have n1 := T.na_Wheels_now; have cl := T.cl_Wheels
 have c_Wheels_all_of := cal_allof (P := P) (w := w) (base := base) T
 have c_Wheels_least := cal_least (P := P) (w := w) (base := base) T
 have c_Wheels_bits := cal_bits (P := P) (w := w) (base := base) T
 have c_Wheels_wheel_of := (cal_wheelof (P := P) (w := w) (base := base) T).calm
 refine T.F__law_lies_as.ok sc__law_lies_as (fun vs H Q E h => ?_) (fun cdv A outer s H vs Q E hr h => ?_)
 . obtain ⟨_, _, _, _, _, _, _, _, _, _, _, _, _, _, _, rfl, _⟩ := h; rfl
 . obtain ⟨p, d, m, p', d', m', lr, n, us, G, G', ts, mvs, mvs', rs, rfl, hw, hw', hlr, hul, h6, htl, hnm, q⟩ := h
   have hi := hw.ws.ins; have hi' := hw'.ws.ins
   refine ⟨_, (pss_cutM (ps_if (PW.pt (pw_or (pt_cmpR (op_neA hr.hu8) (pn_meth0 (pv 0) T.cl_Wheels T.m_Wheels_all_of c_Wheels_all_of (hr.mono (by decide))) (pn_meth0 (pv 1) T.cl_Wheels T.m_Wheels_all_of c_Wheels_all_of (hr.mono (by decide))) (nomark _)) (pw_or1 (pt_cmpR (op_neA hr.hu8) (pe_fld (pv 0) rfl) (pe_fld (pv 1) rfl) (nomark _)))))
    (pss_one (ps_ret pe_bl))
    pss_nil)
    (pss_cutM (ps_if (pt_cmpR (op_neA hr.hu8) (pn_meth0 (pv 0) T.cl_Wheels T.m_Wheels_least c_Wheels_least (hr.mono (by decide))) (pn_meth0 (pv 1) T.cl_Wheels T.m_Wheels_least c_Wheels_least (hr.mono (by decide))) (nomark _))
     (pss_one (ps_ret pe_bl))
     pss_nil)
    (pss_cut (ps_for PassesOwn.never rfl (pi_range1 rfl T.no_range (pa_cons (pe_callB call_lenK rfl T.no_len PySem.boot_len (pa_cons (pv 2) pa_nil)) pa_nil)) (pg_name (i := 3) sc__law_lies_as.nd rfl (Or.inl rfl))
     (pss_one (ps_if (pt_cmpR (op_neA hr.hu8) (pn_meth (pv 0) T.cl_Wheels T.m_Wheels_bits c_Wheels_bits (hr.mono (by decide)) (pa_cons (pv 3) pa_nil)) (pn_meth (pv 1) T.cl_Wheels T.m_Wheels_bits c_Wheels_bits (hr.mono (by decide)) (pa_cons (pv 3) pa_nil)) (nomark _))
      (pss_one (ps_ret pe_bl))
      pss_nil)))
    (pss_cut (ps_for PassesOwn.never rfl (pi_list (pn_meth0 (pv 0) T.cl_Wheels T.m_Wheels_all_of c_Wheels_all_of (hr.mono (by decide)))) (pg_tup (n := 2) rfl (pgs_cons (pg_name (i := 4) sc__law_lies_as.nd rfl (Or.inl rfl)) (pgs_cons (pg_name (i := 5) sc__law_lies_as.nd rfl (Or.inl rfl)) pgs_nil)))
     (pss_one (ps_if (pt_cmpR (op_neA hr.hu8) (pn_meth (pv 0) T.cl_Wheels T.m_Wheels_wheel_of c_Wheels_wheel_of (hr.mono (by decide)) (pa_cons (pv 5) pa_nil)) (pn_meth (pv 1) T.cl_Wheels T.m_Wheels_wheel_of c_Wheels_wheel_of (hr.mono (by decide)) (pa_cons (pv 5) pa_nil)) (nomark _))
      (pss_one (ps_ret pe_bl))
      pss_nil)))
    (pss_one (ps_ret pe_bl)))))), ?_⟩
   have hkn : ∀ ks : List (Int × Str), ks.Perm (ts.map swp) -> ∀ k ∈ ks, NmT k.2 := fun ks hp k hk => by
    obtain ⟨x, hx, rfl⟩ := List.mem_map.mp (hp.mem_iff.mp hk)
    exact hnm x hx
   refine r_cutM (fun σ' H' => σ' = [some (.ref p), some (.ref p'), some (.ref lr), none, none, none] /\ Same H H') ?_ ?_
   . repeat' (walk_at "rd1")
     refine ⟨p, d, m, n, G, ts, mvs, rfl, hw.ws, by omega, fun q1 H1 ks sm1 hn1 hp1 hs1 hq1 => ?_⟩
     have hi1 := (hw'.keeps sm1).ws.ins
     repeat' (walk_at "rd1")
     refine ⟨p', d', m', n, G', ts, mvs', rfl, (hw'.keeps sm1).ws, by omega, fun q2 H2 ks2 sm2 hn2 hp2 hs2 hq2 => ?_⟩
     obtain rfl := srt_unique (hp1.trans hp2.symm) hs1 hs2
     have hi2 := (hw.keeps (sm1.trans sm2)).ws.ins
     have hi2' := (hw'.keeps (sm1.trans sm2)).ws.ins
     repeat' (walk_at "rd1")
     refine r_eqPP (hq1.keeps sm2).dv hq2.dv (hkn _ hp1) ?_
     repeat' (walk_at "rd1")
     all_goals first | exact ⟨rfl, sm1.trans sm2⟩ | (exfalso; simp_all)
   rintro σ' H1 ⟨rfl, sm1⟩
   repeat' (walk_at "rd1")
   refine r_cutM (fun σ' H' => σ' = [some (.ref p), some (.ref p'), some (.ref lr), none, none, none] /\ Same H H') ?_ ?_
   . have hi1 := (hw.keeps sm1).ws.ins
     have hi1' := (hw'.keeps sm1).ws.ins
     repeat' (walk_at "rd1")
     refine ⟨p, d, m, n, G, ts, mvs, rfl, (hw.keeps sm1).ws, fun e => ?_, fun v hv1 hv2 => ?_⟩
     . repeat' (walk_at "rd1")
       refine ⟨p', d', m', n, G', ts, mvs', rfl, (hw'.keeps sm1).ws, fun _ => ?_, fun v hv => absurd hv (by rw [e]; exact List.not_mem_nil)⟩
       repeat' (walk_at "rd1")
       all_goals first | exact ⟨rfl, sm1⟩ | (exfalso; simp_all)
     . repeat' (walk_at "rd1")
       refine ⟨p', d', m', n, G', ts, mvs', rfl, (hw'.keeps sm1).ws, fun e => absurd hv1 (by rw [e]; exact List.not_mem_nil), fun v' hv1' hv2' => ?_⟩
       have e : v = v' := Int.le_antisymm (hv2 v' hv1') (hv2' v hv1)
       subst e
       repeat' (walk_at "rd1")
       all_goals first | exact ⟨rfl, sm1⟩ | (exfalso; simp_all)
   rintro σ' H2 ⟨rfl, sm2⟩
   have hlr2 := hlr.keeps sm2
   repeat' (walk_at "rd1")
   refine for_range (fun j σ' H' => H' = H2 /\ ∃ z3, σ' = [some (.ref p), some (.ref p'), some (.ref lr), z3, none, none]) ⟨rfl, _, rfl⟩ ?_ ?_
   . rintro j σ' H3 hj ⟨rfl, z3, rfl⟩
     have hw3 := hw.keeps sm2
     have hw3' := hw'.keeps sm2
     have hi3 := hw3.ws.ins
     have hi3' := hw3'.ws.ins
     have hjl : j < us.length := by simp at hj; omega
     obtain ⟨y, hy⟩ : ∃ y, G.ws[j]? = some y := ⟨_, List.getElem?_eq_getElem (by rw [hw.gi.len]; exact hjl)⟩
     obtain ⟨y', hy'⟩ : ∃ y, G'.ws[j]? = some y := ⟨_, List.getElem?_eq_getElem (by rw [hw'.gi.len]; exact hjl)⟩
     have em := mask_one hw.gi hw'.gi hy hy'
     rw [Int.zero_add]
     repeat' (walk_at "rd1")
     refine ⟨p, d, m, n, us, G, ts, mvs, j, y, rfl, hw3, hy, ?_⟩
     repeat' (walk_at "rd1")
     refine ⟨p', d', m', n, us, G', ts, mvs', j, y', rfl, hw3', hy', ?_⟩
     repeat' (walk_at "rd1")
     exact ⟨rfl, _, rfl⟩
   rintro σ' H3 ⟨rfl, z3, rfl⟩
   have hw3 := hw.keeps sm2
   have hi3 := hw3.ws.ins
   repeat' (walk_at "rd1")
   refine ⟨p, d, m, n, G, ts, mvs, rfl, hw3.ws, by omega, fun q1 H4 ks sm4 hn4 hp4 hs4 hq4 => ?_⟩
   repeat' (walk_at "rd1")
   refine forDB (Hb := H4) (cs := ks) (gd := pairD) hq4.dv (fun j σ' H' => Same H4 H' /\ ∃ z4 z5, σ' = [some (.ref p), some (.ref p'), some (.ref lr), z3, z4, z5]) ⟨Same.refl _, _, _, rfl⟩ (fun i σ' H' _ ⟨sm, _⟩ a' xs e hx => by cases e; exact Same.seq sm hx) ?_ ?_
   . rintro j k x σ' H5 hk ⟨sm5, z4, z5, rfl⟩ hdx _
     have hx : Dv H5 x (.tuple [.int k.1, .str k.2]) := hdx rfl (sm5.mv (S := [])).tp
     refine r_unpP hx (fun w1 w2 f1 f2 => ?_)
     obtain rfl := f1.int_inv
     obtain rfl := f2.str_inv
     obtain ⟨⟨y, u⟩, hy, rfl⟩ := List.mem_map.mp (hp4.mem_iff.mp (List.mem_of_getElem? hk))
     have hw5 := hw3.keeps (sm4.trans sm5)
     have hi5 := hw5.ws.ins
     repeat' (walk_at "rd1")
     refine ⟨p, d, m, n, us, G, ts, mvs, _, rfl, hw5, hnm _ hy, fun h => absurd (List.mem_map_of_mem (f := (·.1)) hy) h, fun u1 hu1 H6 sm6 => ?_⟩
     obtain rfl := nd_one hw5.nd hu1 hy
     have hw6 := hw'.keeps (((sm2.trans sm4).trans sm5).trans sm6)
     have hi6 := hw6.ws.ins
     repeat' (walk_at "rd1")
     refine ⟨p', d', m', n, us, G', ts, mvs', _, rfl, hw6, hnm _ hy, fun h => absurd (List.mem_map_of_mem (f := (·.1)) hy) h, fun u2 hu2 H7 sm7 => ?_⟩
     obtain rfl := nd_one hw6.nd hu2 hy
     repeat' (walk_at "rd1")
     exact ⟨(sm5.trans sm6).trans sm7, _, _, rfl⟩
   . rintro σ' H5 ⟨sm5, z4, z5, rfl⟩
     repeat' (walk_at "rd1")
     exact q _ ((sm2.trans sm4).trans sm5)
theorem cal_liesas (T : Txt K mg a) : Cal P w K mg base 7 a.f__law_lies_as ["_law_one", "_law_other", "_law_rounds_here"] [] (sp_liesas a.C_Wheels a.C_Wheel) :=
 ⟨⟨_, _, ok_liesas T, T.F__law_lies_as.binds fun _ _ _ _ _ _ => .all fun us hl => match us, hl with | [_, _, _], _ => rfl, .nil⟩⟩
def sp_fell (C CW : Addr) : Sp := fun vs H Q _ => ∃ (p d m lw : Addr) (b : Bool) (n n0 : Int) (us : List (Int × Int)) (G : Geo) (ts ts0 mvs : List (Str × Int)), vs = [.ref p, .ref lw, .bl b] /\ Wss C CW H p d m n us G ts mvs /\ DAt H lw (tmD (ts0.map fun x => (x.1, (wAt us x.2 n0 : Int)))) /\ (ts0.map (·.1)).Nodup /\ (∀ x ∈ ts, x ∈ ts0) /\ ts.length <= 49 /\ (∀ x ∈ ts, NmT x.1) /\ Went us n0 n ts mvs /\ (∀ x ∈ ts, n < x.2) /\ (b = true -> ∀ x ∈ mvs, x.2 <= 1) /\ ∀ H', Same H H' -> Q (.bl true) H'
theorem ok_fell (T : Txt K mg a) : FnOk P w K mg base CX0 7 a.f__law_fell a.fd__law_fell ["_law_told", "_law_wheels", "_law_least"] (sp_fell a.C_Wheels a.C_Wheel) := by
 have c_Wheels_all_of := cal_allof (P := P) (w := w) (base := base) T
 have c_Wheels_moved := (cal_moved (P := P) (w := w) (base := base) T).calm
 have c_Wheels_wheel_of := (cal_wheelof (P := P) (w := w) (base := base) T).calm
 refine T.F__law_fell.ok sc__law_fell (fun vs H Q E h => ?_) (fun cdv A outer s H vs Q E hr h => ?_)
 . obtain ⟨_, _, _, _, _, _, _, _, _, _, _, _, rfl, _⟩ := h; rfl
 . obtain ⟨p, d, m, lw, b, n, n0, us, G, ts, ts0, mvs, rfl, hw, hlw, hnd0, hsub, htl, hnm, hwt, hlt, hb1, q⟩ := h
   have hi := hw.ws.ins
   refine ⟨_, (pss_cut (ps_for PassesOwn.never rfl (pi_list (pn_meth0 (pv 0) T.cl_Wheels T.m_Wheels_all_of c_Wheels_all_of (hr.mono (by decide)))) (pg_tup (n := 2) rfl (pgs_cons (pg_name (i := 3) sc__law_fell.nd rfl (Or.inl rfl)) (pgs_cons (pg_name (i := 4) sc__law_fell.nd rfl (Or.inl rfl)) pgs_nil)))
    (pss_cut (ps_set (i := 5) sc__law_fell.nd rfl (Or.inl rfl) (pn_meth (pv 0) T.cl_Wheels T.m_Wheels_moved c_Wheels_moved (hr.mono (by decide)) (pa_cons (pv 4) pa_nil)))
    (pss_one (ps_if (PW.pt (pw_or (pt_cmpR (op_neA hr.hu8) (pe_cmpR op_gt (pv 5) pe_int (nomark _)) (pe_cmpR op_lt (pn_meth (pv 0) T.cl_Wheels T.m_Wheels_wheel_of c_Wheels_wheel_of (hr.mono (by decide)) (pa_cons (pv 4) pa_nil)) (pe_dget (hu_of hr) (pv 1) (pv 4) (fun _ _ => rfl)) (nomark _)) (nomark _)) (pw_or1 (PW.pt (pw_and (pt_truth (pv 2) (fun _ => rfl)) (pw_and1 (pt_cmpR op_gt (pv 5) pe_int (nomark _))))))))
     (pss_one (ps_ret pe_bl))
     pss_nil))))
    (pss_one (ps_ret pe_bl))), ?_⟩
   repeat' (walk_at "rd1")
   refine ⟨p, d, m, n, G, ts, mvs, rfl, hw.ws, by omega, fun q1 H1 ks sm1 hn1 hp1 hs1 hq1 => ?_⟩
   repeat' (walk_at "rd1")
   refine forDB (Hb := H1) (cs := ks) (gd := pairD) hq1.dv (fun j σ' H' => Same H1 H' /\ ∃ z3 z4 z5, σ' = [some (.ref p), some (.ref lw), some (.bl b), z3, z4, z5]) ⟨Same.refl _, _, _, _, rfl⟩ (fun i σ' H' _ ⟨sm, _⟩ a' xs e hx => by cases e; exact Same.seq sm hx) ?_ ?_
   . rintro j k x σ' H2 hk ⟨sm2, z3, z4, z5, rfl⟩ hdx _
     have hx : Dv H2 x (.tuple [.int k.1, .str k.2]) := hdx rfl (sm2.mv (S := [])).tp
     refine r_unpP hx (fun w1 w2 f1 f2 => ?_)
     obtain rfl := f1.int_inv
     obtain rfl := f2.str_inv
     obtain ⟨⟨y, u⟩, hy, rfl⟩ := List.mem_map.mp (hp1.mem_iff.mp (List.mem_of_getElem? hk))
     have hw2 := hw.keeps (sm1.trans sm2)
     have hi2 := hw2.ws.ins
     have hlw2 := hlw.keeps (sm1.trans sm2)
     have hlk : lkp (tmD (ts0.map fun x => (x.1, (wAt us x.2 n0 : Int)))) y = some (.int (wAt us u n0)) := tm_lkp (by rw [List.map_map]; exact hnd0) (List.mem_map.mpr ⟨(y, u), hsub _ hy, rfl⟩)
     repeat' (walk_at "rd1")
     refine ⟨p, d, m, n, us, G, ts, mvs, _, rfl, hw2, hnm _ hy, fun h => absurd (List.mem_map_of_mem (f := (·.1)) hy) h, fun v hv => ?_⟩
     obtain ⟨v0, v1⟩ := hwt y u v hy (hlt _ hy) hv
     repeat' (walk_at "rd1")
     refine ⟨p, d, m, n, us, G, ts, mvs, _, rfl, hw2, hnm _ hy, fun h => absurd (List.mem_map_of_mem (f := (·.1)) hy) h, fun u' hu' H3 sm3 => ?_⟩
     obtain rfl := nd_one hw2.nd hu' hy
     have hlw3 := hlw2.keeps sm3
     have ev : decide (0 < v) = decide (((wAt us u' n : Nat) : Int) < ((wAt us u' n0 : Nat) : Int)) := decide_eq_decide.mpr (v1.trans ⟨fun z => by omega, fun z => by omega⟩)
     repeat' (walk_at "rd1")
     . rename_i hb
       exact absurd (by rw [ev]) hb
     . rename_i hb2 hb3
       have := hb1 hb2 _ hv
       omega
     . exact ⟨sm2.trans sm3, _, _, _, rfl⟩
     . exact ⟨sm2.trans sm3, _, _, _, rfl⟩
   . rintro σ' H2 ⟨sm2, z3, z4, z5, rfl⟩
     repeat' (walk_at "rd1")
     exact q _ (sm1.trans sm2)
theorem cal_fell (T : Txt K mg a) : Cal P w K mg base 7 a.f__law_fell ["_law_told", "_law_wheels", "_law_least"] [] (sp_fell a.C_Wheels a.C_Wheel) :=
 ⟨⟨_, _, ok_fell T, T.F__law_fell.binds fun _ _ _ _ _ _ => .all fun us hl => match us, hl with | [_, _, _], _ => rfl, .nil⟩⟩
structure Lot where
 p : Addr
 d : Addr
 m : Addr
 G : Geo
def Lot.fp (L : Lot) : List Addr := L.p :: L.d :: L.m :: L.G.foot
def Lot.ok (C CW : Addr) (H : Hp) (n : Int) (us : List (Int × Int)) (ts mvs : List (Str × Int)) (L : Lot) : Prop := Wss C CW H L.p L.d L.m n us L.G ts mvs
def Apt (Ls : List Lot) : Prop := Ls.Pairwise fun A B => ∀ b ∈ A.fp, b ∉ B.fp
theorem ok_law (T : Txt K mg a) : FnOk P w K mg base CX0 11 a.f_law a.fd_law ["_law_script"] (sp_law K) := by
 have c__law_cell_at := cal_law_cell_at (P := P) (w := w) (base := base) T
 have c__law_rounds := cal_rounds (P := P) (w := w) (base := base) T
 have c__law_things := cal_things (P := P) (w := w) (base := base) T
 have c__law_to := cal_to (P := P) (w := w) (base := base) T
 have c__law_made := cal_made (P := P) (w := w) (base := base) T
 have c__law_by_steps := cal_bysteps (P := P) (w := w) (base := base) T
 have c__law_by_leasts := cal_byleasts (P := P) (w := w) (base := base) T
 have c__law_lies_as := cal_liesas (P := P) (w := w) (base := base) T
 have c__law_fell := cal_fell (P := P) (w := w) (base := base) T
 have c_Wheels_due := (cal_due (P := P) (w := w) (base := base) T).calm
 have c_Wheels_wheel_of := (cal_wheelof (P := P) (w := w) (base := base) T).calm
 refine T.F_law.ok sc_law (fun vs H Q E h => ?_) (fun cdv A outer s H vs Q E hr h => ?_)
 . obtain ⟨_, _, rfl, _⟩ := h; rfl
 . obtain ⟨l, ns, rfl, hl, hlen, fin⟩ := h
   refine ⟨_, (pss_cut (ps_set (i := 1) sc_law.nd rfl (Or.inr rfl) (pn_call c__law_rounds (hr.mono (by decide)) rfl T.mg__law_rounds T.kp__law_rounds (pa_cons (pv 0) pa_nil)))
    (pss_cut (ps_set (i := 2) sc_law.nd rfl (Or.inr rfl) (pe_op op_mulB (pe_op op_modP (pe_op op_fdivB (pn_call c__law_cell_at (hr.mono (by decide)) rfl T.mg__law_cell_at T.kp__law_cell_at (pa_cons (pv 0) (pa_cons pe_int pa_nil))) pe_int) (pe_op op_pow pe_int pe_int)) (pe_op op_fdivB (pe_op op_modP (pn_call c__law_cell_at (hr.mono (by decide)) rfl T.mg__law_cell_at T.kp__law_cell_at (pa_cons (pv 0) (pa_cons pe_int pa_nil))) pe_int) pe_int)))
    (pss_cut (ps_set (i := 3) sc_law.nd rfl (Or.inl rfl) (pn_call c__law_cell_at (hr.mono (by decide)) rfl T.mg__law_cell_at T.kp__law_cell_at (pa_cons (pv 0) (pa_cons pe_int pa_nil))))
    (pss_cut (ps_set (i := 4) sc_law.nd rfl (Or.inl rfl) (pe_op op_fdivB (pn_call c__law_cell_at (hr.mono (by decide)) rfl T.mg__law_cell_at T.kp__law_cell_at (pa_cons (pv 0) (pa_cons pe_int pa_nil))) pe_int))
    (pss_cut (ps_set (i := 5) sc_law.nd rfl (Or.inr rfl) (pn_call c__law_things (hr.mono (by decide)) rfl T.mg__law_things T.kp__law_things (pa_cons (pe_slice sl_list (pv 0) (po_some pe_int) (po_some pe_int)) (pa_cons (pv 2) (pa_cons (pv 1) (pa_cons (pv 3) (pa_cons (pv 4) pa_nil)))))))
    (pss_cut (ps_set (i := 6) sc_law.nd rfl (Or.inr rfl) (pn_call c__law_to (hr.mono (by decide)) rfl T.mg__law_to T.kp__law_to (pa_cons (pv 5) (pa_cons (pv 2) (pa_cons (pv 3) (pa_cons (pn_call c__law_cell_at (hr.mono (by decide)) rfl T.mg__law_cell_at T.kp__law_cell_at (pa_cons (pv 0) (pa_cons pe_int pa_nil))) pa_nil))))))
    (pss_cut (ps_lc (i := 7) sc_law.nd rfl (Or.inl rfl) (T := ["_law_k"]) (M := ["_law_script", "_law_rounds_here", "_law_now", "_law_style", "_law_way", "_law_things_here", "_law_to_here", "_law_lots", "_law_wheels", "_law_name_here", "_law_time_here", "_law_found", "012"]) (lcn (defScope s_law) ["_law_script", "_law_rounds_here", "_law_now", "_law_style", "_law_way", "_law_things_here", "_law_to_here", "_law_lots", "_law_wheels", "_law_name_here", "_law_time_here", "_law_found", "_law_k"] rfl rfl (by decide +kernel)) rfl (pi_range1 rfl T.no_range (pa_cons pe_int pa_nil)) (fun _ _ _ _ _ => (pg_name (i := 0) (show List.Nodup (["_law_k", "_law_script", "_law_rounds_here", "_law_now", "_law_style", "_law_way", "_law_things_here", "_law_to_here", "_law_lots", "_law_wheels", "_law_name_here", "_law_time_here", "_law_found", "012"] : List Str) by decide +kernel) rfl (Or.inl rfl))) (gown_name (by decide)) (fun _ _ _ _ _ => pif_nil) (fun _ _ _ _ _ => (pn_call c__law_made (hr.mono (by decide)) rfl T.mg__law_made T.kp__law_made (pa_cons (pv 2) (pa_cons (pv 3) (pa_cons (pv 6) pa_nil))))) rfl)
    (pss_cut (ps_set (i := 8) sc_law.nd rfl (Or.inl rfl) pe_dnewK)
    (pss_cut (ps_for PassesOwn.never rfl (pi_list (pv 5)) (pg_tup (n := 2) rfl (pgs_cons (pg_name (i := 9) sc_law.nd rfl (Or.inl rfl)) (pgs_cons (pg_name (i := 10) sc_law.nd rfl (Or.inl rfl)) pgs_nil)))
     (pss_one (ps_dput (hu_of hr) (pv 8) (pv 9) (pn_meth (pe_ix ix_K (pv 7) pe_int (fun _ _ => rfl)) T.cl_Wheels T.m_Wheels_wheel_of c_Wheels_wheel_of (hr.mono (by decide)) (pa_cons (pv 9) pa_nil)) rfl)))
    (pss_cut (ps_set (i := 11) sc_law.nd rfl (Or.inl rfl) (pn_meth (pe_ix ix_K (pv 7) pe_int (fun _ _ => rfl)) T.cl_Wheels T.m_Wheels_due c_Wheels_due (hr.mono (by decide)) (pa_cons (pv 6) pa_nil)))
    (pss_cut (ps_if (pt_cmpR (op_neA hr.hu8) (pv 11) (pe_callB call_sortP rfl T.no_sorted PyProof.Rows.boot_sorted (pa_cons (pe_lc (T := ["_law_name_here", "_law_time_here"]) (M := ["_law_script", "_law_rounds_here", "_law_now", "_law_style", "_law_way", "_law_things_here", "_law_to_here", "_law_lots", "_law_wheels", "09", "010", "_law_found", "_law_k"]) (lcn (defScope s_law) ["_law_script", "_law_rounds_here", "_law_now", "_law_style", "_law_way", "_law_things_here", "_law_to_here", "_law_lots", "_law_wheels", "_law_name_here", "_law_time_here", "_law_found", "_law_k"] rfl rfl (by decide +kernel)) rfl (pi_list (pv 5)) (fun _ _ _ _ _ => (pg_tupK (K := K) (n := 2) rfl rfl (pgs_cons (pg_name (i := 0) (show List.Nodup (["_law_name_here", "_law_time_here", "_law_script", "_law_rounds_here", "_law_now", "_law_style", "_law_way", "_law_things_here", "_law_to_here", "_law_lots", "_law_wheels", "09", "010", "_law_found", "_law_k"] : List Str) by decide +kernel) rfl (Or.inl rfl)) (pgs_cons (pg_name (i := 1) (show List.Nodup (["_law_name_here", "_law_time_here", "_law_script", "_law_rounds_here", "_law_now", "_law_style", "_law_way", "_law_things_here", "_law_to_here", "_law_lots", "_law_wheels", "09", "010", "_law_found", "_law_k"] : List Str) by decide +kernel) rfl (Or.inl rfl)) pgs_nil)))) (gown_tup (gsown_cons (by decide) (gsown_cons (by decide) gsown_nil))) (fun _ _ _ _ _ => (pif_one (pt_cmpR op_le (pv 1) (pv 8) (nomark _)))) (fun _ _ _ _ _ => (pe_tupD (pa_cons (pv 1) (pa_cons (pv 0) pa_nil))))) pa_nil)) (nomark _))
     (pss_one (ps_ret pe_bl))
     pss_nil)
    (pss_cut (ps_if (pt_cmpR (op_neA hr.hu8) (pn_call c__law_by_steps (hr.mono (by decide)) rfl T.mg__law_by_steps T.kp__law_by_steps (pa_cons (pe_ix ix_K (pv 7) pe_int (fun _ _ => rfl)) (pa_cons (pv 0) (pa_cons (pv 2) (pa_cons (pv 6) pa_nil))))) (pv 11) (nomark _))
     (pss_one (ps_ret pe_bl))
     pss_nil)
    (pss_cut (ps_if (pt_cmpR (op_neA hr.hu8) (pn_call c__law_by_leasts (hr.mono (by decide)) rfl T.mg__law_by_leasts T.kp__law_by_leasts (pa_cons (pe_ix ix_K (pv 7) pe_int (fun _ _ => rfl)) (pa_cons (pv 6) pa_nil))) (pv 11) (nomark _))
     (pss_one (ps_ret pe_bl))
     pss_nil)
    (pss_cut (ps_for PassesOwn.never rfl (pi_list (pe_lstD (pa_cons pe_int (pa_cons pe_int pa_nil)))) (pg_name (i := 12) sc_law.nd rfl (Or.inl rfl))
     (pss_one (ps_if (PW.pt (pw_or (pt_not (pt_truth (pn_call c__law_lies_as (hr.mono (by decide)) rfl T.mg__law_lies_as T.kp__law_lies_as (pa_cons (pe_ix ix_K (pv 7) pe_int (fun _ _ => rfl)) (pa_cons (pe_ix ix_K (pv 7) (pv 12) (fun _ _ => rfl)) (pa_cons (pv 1) pa_nil)))) (fun _ => rfl))) (pw_or1 (pt_not (pt_truth (pn_call c__law_fell (hr.mono (by decide)) rfl T.mg__law_fell T.kp__law_fell (pa_cons (pe_ix ix_K (pv 7) (pv 12) (fun _ _ => rfl)) (pa_cons (pv 8) (pa_cons pe_bl pa_nil)))) (fun _ => rfl))))))
      (pss_one (ps_ret pe_bl))
      pss_nil)))
    (pss_one (ps_ret (pn_call c__law_fell (hr.mono (by decide)) rfl T.mg__law_fell T.kp__law_fell (pa_cons (pe_ix ix_K (pv 7) pe_int (fun _ _ => rfl)) (pa_cons (pv 8) (pa_cons pe_bl pa_nil)))))))))))))))))))), ?_⟩
   repeat' (walk_at "rd1")
   refine ⟨l, ns, rfl, hl, fun pr H1 rs sm1 hn1 hp1 hr1 hr6 hrs => ?_⟩
   have hl1 : SqL K H1 l (ns.map V.int) := Same.seq sm1 hl
   repeat' (walk_at "rd1")
   rename_i b0 b1 b2 b3
   have hnow : 0 <= cell ns (Int.toNat 1) / 6 % 10 ^ 30 * (cell ns (Int.toNat 1) % 3 / 2) /\ cell ns (Int.toNat 1) / 6 % 10 ^ 30 * (cell ns (Int.toNat 1) % 3 / 2) < 10 ^ 30 := by
    rcases (by omega : cell ns (Int.toNat 1) % 3 / 2 = 0 \/ cell ns (Int.toNat 1) % 3 / 2 = 1) with e | e
    . rw [e]; omega
    . rw [e]; omega
   generalize cell ns (Int.toNat 1) / 6 % 10 ^ 30 * (cell ns (Int.toNat 1) % 3 / 2) = n at *
   obtain ⟨hn0, hn1'⟩ := hnow
   refine r_cutN 14 63 hl1 (fun pc H2 sm2 hn2 hpc => ?_)
   have hclen : ((ns.drop 14).take (63 - 14)).length <= 49 := by rw [List.length_take]; omega
   generalize (ns.drop 14).take (63 - 14) = cs at *
   have hp2 := hp1.keeps sm2
   repeat' (walk_at "rd1")
   refine ⟨pc, pr, n, _, _, cs, rs, rfl, hpc, hclen, hp2, hr6, hrs, hn0, hn1', fun pt H3 ts sm3 hn3 hpt hg hnd htl => ?_⟩
   have hp3 := hp2.keeps sm3
   have hl3 : SqL K H3 l (ns.map V.int) := Same.seq (sm2.trans sm3) hl1
   repeat' (walk_at "rd1")
   refine ⟨pt, n, _, _, ts, rfl, hpt, hg, hn0, hn1', fun H5 to sm5 hnt => ?_⟩
   have hp5 := hp3.keeps sm5
   have hpt5 := hpt.keeps sm5
   have hl5 : SqL K H5 l (ns.map V.int) := Same.seq sm5 hl3
   have hch := unitsOf_ch hr1 hr6 hrs
   have hul := unitsOf_len 1 rs
   repeat' (walk_at "rd1")
   refine r_lcRG (n := 3) (by decide) (fun i acc H' => ∃ Ls : List Lot, acc = Ls.map (fun L => V.ref L.p) /\ Ls.length = i /\ Same H5 H' /\ (∀ L ∈ Ls, L.ok a.C_Wheels a.C_Wheel H' n (unitsOf 1 rs) ts (zer ts) /\ ∀ b ∈ L.fp, H5 b = none) /\ Apt Ls) ⟨[], rfl, rfl, Same.refl _, (fun L h => nomatch h), .nil⟩ (fun i acc H' hi ⟨Ls, e, hl, _⟩ => by rw [e, List.length_map, hl]; exact hi) ?_ ?_
   . rintro i acc H6 N hi ⟨Ls, rfl, hLl, sm6, hLs, hap⟩ yes no
     have hp6 := hp5.keeps sm6
     have hpt6 := hpt5.keeps sm6
     repeat' (walk_at "rd1")
     refine r_lct (fun hb => ?_) (fun hb => by cases hb)
     repeat' (walk_at "rd1")
     refine ⟨pr, pt, n, rs, ts, rfl, hp6, hr1, hr6, hrs, hn0, hpt6, hg, hnd, htl, fun p d m G H7 sm7 hf7 hw7 => ?_⟩
     refine yes _ _ ⟨Ls ++ [⟨p, d, m, G⟩], by rw [List.map_append]; rfl, by rw [List.length_append, hLl]; rfl, sm6.trans sm7, fun L hL => ?_, ?_⟩
     . rcases List.mem_append.mp hL with hL | hL
       . obtain ⟨h1, h2⟩ := hLs L hL
         exact ⟨Wss.keeps sm7 h1, h2⟩
       . rw [List.mem_singleton.mp hL]
         exact ⟨hw7, fun b hb => sm6.none (hf7 b hb)⟩
     . refine List.pairwise_append.mpr ⟨hap, List.pairwise_singleton _ _, fun A hA B hB b hb hb2 => ?_⟩
       rw [List.mem_singleton.mp hB] at hb2
       exact (hLs A hA).1.ws.alive b hb (hf7 b hb2)
   rintro acc H6 ql ⟨Ls, rfl, hLl, sm6, hLs, hap⟩ hql
   obtain ⟨L0, L1, L2, rfl⟩ : ∃ L0 L1 L2, Ls = [L0, L1, L2] := by
    match Ls, hLl with
    | [L0, L1, L2], _ => exact ⟨L0, L1, L2, rfl⟩
   obtain ⟨w0, f0⟩ := hLs L0 (by simp)
   obtain ⟨w1, f1⟩ := hLs L1 (by simp)
   obtain ⟨w2, f2⟩ := hLs L2 (by simp)
   obtain ⟨a0, a1, _⟩ : (∀ b ∈ L0.fp, b ∉ L1.fp /\ b ∉ L2.fp) /\ (∀ b ∈ L1.fp, b ∉ L2.fp) /\ True := by
    simp only [Apt, List.pairwise_cons, List.mem_cons, List.not_mem_nil, or_false, forall_eq_or_imp, forall_eq] at hap
    exact ⟨fun b hb => ⟨hap.1.1 b hb, hap.1.2 b hb⟩, hap.2.1, trivial⟩
   have smq : Same H6 (upd H6 ql (.lst [.ref L0.p, .ref L1.p, .ref L2.p])) := same_upd hql
   have hqe : upd H6 ql (.lst [.ref L0.p, .ref L1.p, .ref L2.p]) ql = some (.lst [.ref L0.p, .ref L1.p, .ref L2.p]) := upd_same
   have q0 : ql ∉ L0.fp := fun z => w0.ws.alive ql z hql
   have q1 : ql ∉ L1.fp := fun z => w1.ws.alive ql z hql
   have q2 : ql ∉ L2.fp := fun z => w2.ws.alive ql z hql
   replace w0 := Wss.keeps smq w0
   replace w1 := Wss.keeps smq w1
   replace w2 := Wss.keeps smq w2
   have sm7 := sm6.trans smq
   rw [show List.map (fun L => V.ref L.p) [L0, L1, L2] = [.ref L0.p, .ref L1.p, .ref L2.p] from rfl]
   generalize upd H6 ql (.lst [.ref L0.p, .ref L1.p, .ref L2.p]) = H7 at *
   have hp7 := hp5.keeps sm7
   have hpt7 := hpt5.keeps sm7
   repeat' (walk_at "rd1")
   rename_i qd H8 sm8 hn8 hqd
   have d0 : qd ∉ L0.fp := fun z => w0.ws.alive qd z hn8
   have d1 : qd ∉ L1.fp := fun z => w1.ws.alive qd z hn8
   have d2 : qd ∉ L2.fp := fun z => w2.ws.alive qd z hn8
   have dq : ql ≠ qd := fun z => by rw [z, hn8] at hqe; cases hqe
   have hpt8 := hpt7.keeps sm8
   have dpt : pt ≠ qd := hpt7.ne hn8
   replace w0 := w0.keeps sm8
   replace w1 := w1.keeps sm8
   replace w2 := w2.keeps sm8
   replace hqe := sm8 _ _ hqe
   refine forDB (Hb := H8) (cs := ts) (gd := itm) hpt8.dv (fun j σ' H' => ∃ z9 z10, σ' = [some (.ref l), some (.ref pr), some (.int n), some (.int (cell ns (Int.toNat 2))), some (.int (cell ns (Int.toNat 1) / 3)), some (.ref pt), some (.int to), some (.ref ql), some (.ref qd), z9, z10, none, none] /\ Mv [qd] H8 H' /\ DAt H' qd (tmD ((ts.take j).map fun x => (x.1, (wAt (unitsOf 1 rs) x.2 n : Int))))) ⟨_, _, rfl, Mv.refl, hqd⟩ (fun i σ' H' _ ⟨_, _, _, mv, _⟩ a' xs e hx => by cases e; exact mv.sq (by simpa using dpt) hx) ?_ ?_
   . rintro j ⟨y, t⟩ v σ' H9 hj ⟨z9, z10, rfl, mv9, hd9⟩ hdx _
     have hd : Dv H9 v (.tuple [.str y, .int t]) := hdx rfl mv9.tp
     refine r_unpP hd (fun u1 u2 f1 f2 => ?_)
     obtain rfl := f1.str_inv
     obtain rfl := f2.int_inv
     have hq9 := mv9.at (by simpa using dq) hqe
     have w9 := w0.mv mv9 fun b hb => by simpa using fun z : b = qd => d0 (z ▸ hb)
     have hi9 := w9.ws.ins
     have hyn : y ∉ (((ts.take j).map fun x => (x.1, (wAt (unitsOf 1 rs) x.2 n : Int))).map (·.1)) := by rw [List.map_map]; exact nd_take hnd hj
     have hml := tmD_len ((ts.take j).map fun x => (x.1, (wAt (unitsOf 1 rs) x.2 n : Int)))
     rw [List.length_map, List.length_take] at hml
     repeat' (walk_at "rd1")
     refine r_ixL (.of hq9) rfl ?_
     repeat' (walk_at "rd1")
     have hyt := List.mem_of_getElem? hj
     refine ⟨L0.p, L0.d, L0.m, n, _, L0.G, ts, _, y, rfl, w9, (hg _ hyt).1, fun h => absurd (List.mem_map_of_mem (f := (·.1)) hyt) h, fun t1 ht1 H10 sm10 => ?_⟩
     obtain rfl := nd_one hnd ht1 hyt
     have hd10 := hd9.keeps sm10
     repeat' (walk_at "rd1")
     rename_i H11 mv11 hd11
     refine ⟨_, _, rfl, (mv9.stepS sm10).trans mv11, ?_⟩
     rw [putD_new (tm_none hyn), <- tmD_app] at hd11
     rw [take_snoc hj, List.map_append]
     exact hd11
   rintro σ' H9 ⟨z9, z10, rfl, mv9, hd9⟩
   rw [List.take_length] at hd9
   have hq9 := mv9.at (by simpa using dq) hqe
   replace w0 := w0.mv mv9 fun b hb => by simpa using fun z : b = qd => d0 (z ▸ hb)
   replace w1 := w1.mv mv9 fun b hb => by simpa using fun z : b = qd => d1 (z ▸ hb)
   replace w2 := w2.mv mv9 fun b hb => by simpa using fun z : b = qd => d2 (z ▸ hb)
   have sm9 : Same H5 H9 := Mv.sameN (sm7.trans sm8) mv9 (sm7.none hn8)
   clear mv9 hqe hqd hpt8 hpt7 hp7
   have hi0 := w0.ws.ins
   repeat' (walk_at "rd1")
   refine r_ixL (.of hq9) rfl ?_
   repeat' (walk_at "rd1")
   refine ⟨L0.p, L0.d, L0.m, n, _, L0.G, ts, _, to, rfl, w0, hch, by omega, fun h => absurd h (by omega), fun _ lf H10 G0 mvs0 ks mv10 hn10 hlf0 hkp hks hlf w0' hm0 hf0 => ?_⟩
   have e2 : (ts.filter fun y => decide (n < y.2)) = ts := List.filter_eq_self.mpr fun x hx => decide_eq_true (hg x hx).2.1
   have hwt0 : Went (unitsOf 1 rs) n to ts mvs0 := went_step hch hnd (Int.le_refl n) hnt went_zer (by rw [e2]; exact hm0)
   have hle0 : ∀ x ∈ mvs0, x.2 <= 1 := fun ⟨x, v⟩ hx => by
    obtain ⟨u, v0, _, _, h3, rfl⟩ := (hm0 x v).mp hx
    obtain ⟨y, _, e⟩ := List.mem_map.mp h3
    cases e
    show (0 : Int) + _ <= 1
    split <;> omega
   have hfn : ∀ x ∈ ts.filter (fun y => decide (to < y.2)), NmT x.1 := fun x hx => (hg x (List.mem_filter.mp hx).1).1
   have hfl : (ts.filter fun y => decide (to < y.2)).length <= 49 := Nat.le_trans (fil_len _ _) htl
   have hff : ∀ x ∈ ts.filter (fun y => decide (to < y.2)), to < x.2 := fun x hx => of_decide_eq_true (List.mem_filter.mp hx).2
   have hkn : ∀ k ∈ ks, NmT k.2 := fun k hk => by
    obtain ⟨x, hx, rfl⟩ := List.mem_map.mp (hkp.mem_iff.mp hk)
    exact (hg x (List.mem_filter.mp hx).1).1
   have al1 := w1.ws.alive
   have al2 := w2.ws.alive
   have alq : H9 ql ≠ none := by rw [hq9]; simp
   have ald : H9 qd ≠ none := by obtain ⟨_, e, _⟩ := hd9; rw [e]; simp
   have l1f : lf ∉ L1.fp := fun z => al1 lf z hn10
   have l2f : lf ∉ L2.fp := fun z => al2 lf z hn10
   have b1 : ∀ b ∈ L1.fp, b ∉ (Lot.mk L0.p L0.d L0.m G0).fp := fun b hb => q_off (fun z => (a0 b z).1 hb) hf0 (al1 b hb)
   have b2 : ∀ b ∈ L2.fp, b ∉ (Lot.mk L0.p L0.d L0.m G0).fp := fun b hb => q_off (fun z => (a0 b z).2 hb) hf0 (al2 b hb)
   have bq : ql ∉ (Lot.mk L0.p L0.d L0.m G0).fp := q_off q0 hf0 alq
   have bd : qd ∉ (Lot.mk L0.p L0.d L0.m G0).fp := q_off d0 hf0 ald
   have bl : lf ∉ (Lot.mk L0.p L0.d L0.m G0).fp := hlf0
   replace w1 := w1.mv mv10 fun b hb z => (a0 b z).1 hb
   replace w2 := w2.mv mv10 fun b hb z => (a0 b z).2 hb
   have hq10 := mv10.at q0 hq9
   have hd10 := hd9.mv mv10 d0
   have sm10 : Same H5 H10 := same_mv sm9 mv10 f0
   clear w0 hm0 hf0 mv10 hq9 hd9 sm9 a0 q0 d0 f0 hi0
   have hpt10 := hpt5.keeps sm10
   repeat' (walk_at "rd1")
   refine r_lc (cs := ts) (gd := itm) (fun x => decide (x.2 <= to)) (fun x => pairD (swp x)) hpt10.dv (by omega) (fun _ => rfl) (fun y x H11 N hx sm11 hy yes no => ?_) (fun q3 H11 sm11 hn11 hq11 => ?_)
   . have hy : Dv H11 y (.tuple [.str x.1, .int x.2]) := hy
     refine r_unpP hy (fun u1 u2 f1 f2 => ?_)
     obtain rfl := f1.str_inv
     obtain rfl := f2.int_inv
     repeat' (walk_at "rd1")
     refine r_lct (fun hb => ?_) (fun hb => ?_)
     . repeat' (walk_at "rd1")
       exact yes (by simpa using hb) _ _ (by walk_at "same") (by walk_at "dat")
     . exact no (by simpa using hb) H11 (Same.refl _)
   have hq11' : Dv H11 (.ref q3) (.list (((ts.filter fun x => decide (x.2 <= to)).map swp).map pairD)) := by have := hq11.dv; rw [List.map_map]; exact this
   repeat' (walk_at "rd1")
   refine r_sortP hq11' (by rw [List.length_map]; have := fil_len (fun x => decide (x.2 <= to)) ts; omega) (fun q4 H12 ks2 sm12 hn12 hp12 hs12 hq12 => ?_)
   obtain rfl := srt_unique (hp12.trans hkp.symm) hs12 hks
   have sm1012 := sm11.trans sm12
   repeat' (walk_at "rd1")
   refine r_eqPP (hlf.keeps sm1012).dv hq12.dv hkn ?_
   replace sm10 := sm10.trans sm1012
   replace w0' := w0'.keeps sm1012
   replace w1 := w1.keeps sm1012
   replace w2 := w2.keeps sm1012
   replace hq10 := sm1012 _ _ hq10
   replace hd10 := hd10.keeps sm1012
   replace hlf := hlf.keeps sm1012
   clear hq11 hq11' hq12 hpt10 sm11 sm12
   have hl12 : SqL K H12 l (ns.map V.int) := Same.seq sm10 hl5
   have hi1 := w1.ws.ins
   repeat' (walk_at "rd1")
   refine r_ixL (.of hq10) rfl ?_
   repeat' (walk_at "rd1")
   refine ⟨L1.p, L1.d, L1.m, l, n, to, _, L1.G, ts, ns, rfl, w1, hch, htl, fun x hx => (hg x hx).2.1, hl12, hnt, fun H13 l13 ks1 G1 mvs1 R1 => ?_⟩
   obtain rfl := srt_unique (R1.pm.trans hkp.symm) R1.st hks
   have al0 := w0'.ws.alive
   replace al2 := w2.ws.alive
   have c0 : ∀ b ∈ (Lot.mk L0.p L0.d L0.m G0).fp, b ∉ (Lot.mk L1.p L1.d L1.m G1).fp := fun b hb => q_off (fun z => b1 b z hb) (fun b hb => (R1.ft b hb).imp id id) (al0 b hb)
   have c2 : ∀ b ∈ L2.fp, b ∉ (Lot.mk L1.p L1.d L1.m G1).fp := fun b hb => q_off (fun z => a1 b z hb) R1.ft (al2 b hb)
   have cq : ql ∉ (Lot.mk L1.p L1.d L1.m G1).fp := q_off q1 R1.ft (by rw [hq10]; simp)
   have cd : qd ∉ (Lot.mk L1.p L1.d L1.m G1).fp := q_off d1 R1.ft (by obtain ⟨_, e, _⟩ := hd10; rw [e]; simp)
   replace w0' := w0'.mv R1.mv fun b hb z => b1 b z hb
   replace w2 := w2.mv R1.mv fun b hb z => a1 b z hb
   replace hq10 := R1.mv.at q1 hq10
   replace hd10 := hd10.mv R1.mv d1
   replace hlf := hlf.mv R1.mv l1f
   have w1' := R1.hw
   have wt1 := R1.wt
   replace sm10 : Same H5 H13 := same_mv sm10 R1.mv f1
   have hl13 := R1.la
   clear R1 w1 a1 b1 q1 d1 f1 l1f hl12 hi1
   repeat' (walk_at "rd1")
   refine r_eqPP hl13.dv hlf.dv hkn ?_
   have hi2 := w2.ws.ins
   repeat' (walk_at "rd1")
   refine r_ixL (.of hq10) rfl ?_
   repeat' (walk_at "rd1")
   refine ⟨L2.p, L2.d, L2.m, n, to, _, L2.G, ts, rfl, w2, hch, htl, fun x hx => ⟨(hg x hx).2.1, (hg x hx).1⟩, hnt, fun H14 l14 ks2 G2 mvs2 R2 => ?_⟩
   obtain rfl := srt_unique (R2.pm.trans hkp.symm) R2.st hks
   replace w0' := w0'.mv R2.mv fun b hb z => b2 b z hb
   replace w1' := w1'.mv R2.mv fun b hb z => c2 b z hb
   replace hq10 := R2.mv.at q2 hq10
   replace hd10 := hd10.mv R2.mv d2
   replace hlf := hlf.mv R2.mv l2f
   have w2' := R2.hw
   have wt2 := R2.wt
   replace sm10 : Same H5 H14 := same_mv sm10 R2.mv f2
   have hl14 := R2.la
   clear R2 w2 b2 q2 d2 f2 l2f hi2 hl13
   repeat' (walk_at "rd1")
   refine r_eqPP hl14.dv hlf.dv hkn ?_
   repeat' (walk_at "rd1")
   rename_i qz H15 sm15 hn15 hqz
   have hz : LAt H15 qz (([1, 2] : List Int).map PyData.int) := hqz
   have hsub : ∀ x ∈ ts.filter (fun y => decide (to < y.2)), x ∈ ts := fun x hx => (List.mem_filter.mp hx).1
   have hlot : ∀ k ∈ ([1, 2] : List Int), ∃ (L : Lot) (mvs : List (Str × Int)), atI [V.ref L0.p, V.ref L1.p, V.ref L2.p] k = some (.ref L.p) /\ Wss a.C_Wheels a.C_Wheel H15 L.p L.d L.m to (unitsOf 1 rs) L.G (ts.filter fun y => decide (to < y.2)) mvs /\ Went (unitsOf 1 rs) n to ts mvs := fun k hk => by
    simp only [List.mem_cons, List.not_mem_nil, or_false] at hk
    rcases hk with rfl | rfl
    . exact ⟨⟨L1.p, L1.d, L1.m, G1⟩, mvs1, rfl, w1'.keeps sm15, wt1⟩
    . exact ⟨⟨L2.p, L2.d, L2.m, G2⟩, mvs2, rfl, w2'.keeps sm15, wt2⟩
   replace w0' := w0'.keeps sm15
   replace hq10 := sm15 _ _ hq10
   replace hd10 := hd10.keeps sm15
   replace sm10 := sm10.trans sm15
   have hpr := hp5.keeps sm10
   refine forDB (Hb := H15) (cs := ([1, 2] : List Int)) (gd := PyData.int) hz.dv (fun j σ' H' => Same H15 H' /\ ∃ z12, σ' = [some (.ref l), some (.ref pr), some (.int n), some (.int (cell ns (Int.toNat 2))), some (.int (cell ns (Int.toNat 1) / 3)), some (.ref pt), some (.int to), some (.ref ql), some (.ref qd), z9, z10, some (.ref lf), z12]) ⟨Same.refl _, _, rfl⟩ (fun i σ' H' _ ⟨sm, _⟩ a' xs e hx => by cases e; exact Same.seq sm hx) ?_ ?_
   . rintro j k v σ' H16 hj ⟨sm16, z12, rfl⟩ hdx _
     obtain rfl := (hdx rfl (sm16.mv (S := [])).tp).int_inv
     obtain ⟨L, mvs, hat, hwL, hwt⟩ := hlot k (List.mem_of_getElem? hj)
     have hq16 := sm16 _ _ hq10
     have hpr16 := hpr.keeps sm16
     repeat' (walk_at "rd1")
     refine r_ixL (.of hq16) rfl ?_
     repeat' (walk_at "rd1")
     refine r_ixL (.of hq16) hat ?_
     repeat' (walk_at "rd1")
     refine ⟨L0.p, L0.d, L0.m, L.p, L.d, L.m, pr, to, _, G0, L.G, _, mvs0, mvs, rs, rfl, w0'.keeps sm16, hwL.keeps sm16, hpr16, hul, hr6, hfl, hfn, fun H17 sm17 => ?_⟩
     have hq17 := sm17 _ _ hq16
     have sm1517 := sm16.trans sm17
     repeat' (walk_at "rd1")
     refine r_ixL (.of hq17) hat ?_
     repeat' (walk_at "rd1")
     refine ⟨L.p, L.d, L.m, qd, false, to, n, _, L.G, _, ts, mvs, rfl, hwL.keeps sm1517, hd10.keeps sm1517, hnd, hsub, hfl, hfn, fun x u v h => hwt x u v (hsub _ h), hff, fun h => (nomatch h), fun H18 sm18 => ?_⟩
     repeat' (walk_at "rd1")
     exact ⟨sm1517.trans sm18, _, rfl⟩
   . rintro σ' H16 ⟨sm16, z12, rfl⟩
     have hq16 := sm16 _ _ hq10
     repeat' (walk_at "rd1")
     refine r_ixL (.of hq16) rfl ?_
     repeat' (walk_at "rd1")
     refine ⟨L0.p, L0.d, L0.m, qd, true, to, n, _, G0, _, ts, mvs0, rfl, w0'.keeps sm16, hd10.keeps sm16, hnd, hsub, hfl, hfn, fun x u v h => hwt0 x u v (hsub _ h), hff, fun _ => hle0, fun H17 sm17 => ?_⟩
     repeat' (walk_at "rd1")
     exact fin _
end
end My
open PySem PySem.W PyProof.Rows
local macro_rules | `(tactic| walk_at "k_dg") => `(tactic| (refine' ⟨?a, ⟨_, L2.funD_mk ?l ?c⟩, ?k⟩; (case a => k_is); (case l => k_is); (case c => k_is); (case k => k_is)))
local macro_rules | `(tactic| walk_at "k_dm") => `(tactic| (refine' ⟨?a, ⟨_, L2.funD_mk ?l ?c⟩, ?k, ?i⟩; (case a => k_is); (case l => k_is); (case c => k_is); (case k => k_is); (case i => k_is)))
local macro_rules | `(tactic| walk_at "k_dt") => `(tactic| (refine' My.defT_mk ?l; (case l => k_is)))
local macro_rules | `(tactic| walk_at "k_ck") => `(tactic| (refine' ⟨?a, ?b, ?c, ?d, ?e, ?f, ?g⟩; (case a => k_is); (case b => k_is); (case c => k_is); (case d => k_is); (case e => k_is); (case f => k_is); (case g => k_is)))
local macro_rules | `(tactic| walk_at "k_xl") => `(tactic| (refine' My.exL_mk ?l; (case l => k_is)))
theorem PySem.W.Fast.tw3979805846820004295 : True := trivial
theorem PySem.W.Fast.tw7184187188373286459 : True := trivial
theorem PySem.W.Fast.tw15365582080854128461 : True := trivial
theorem PySem.W.Fast.tw15548360040181398676 : True := trivial
theorem PySem.W.Fast.tw13380047511113314474 : True := trivial
theorem PySem.W.Fast.tw4622215465066827310 : True := trivial
theorem PySem.W.Fast.tw9386487617419336200 : True := trivial
theorem PySem.W.Fast.tw6344401291431928276 : True := trivial
theorem PySem.W.Fast.tw3741546758134088606 : True := trivial
theorem PySem.W.Fast.tw10298426730379879404 : True := trivial
theorem PySem.W.Fast.tw9518270967230199898 : True := trivial
set_option maxRecDepth 100000 in
set_option maxHeartbeats 0 in
theorem PySem.Challenge.cw_wakefew_k19_whole_far_jumps_holds : PySem.Challenge.rw_wakefew_k19_whole_far_jumps.Holds := by
 w_on; o_law; k_head; (case hw => w_witness2)
 k_fill
 refine L2.walk_ofK (l := PySem.Challenge.rw_wakefew_k19_whole_far_jumps) (n := 63) (k := 14) (x := "_law_script") (CX := L2.CX0) (sp := My.sp_law) rfl (by decide) rfl ⟨rfl, by decide, by decide⟩ (fun w h Y => PySem.W.kIn_of Y) ?F ?S ?C
 case F =>
  intro w mg fa h KX G hmg
  have T : ∃ a : My.Ad, a.f_law = a.f_law /\ My.Txt (L2.KOf KX) mg a := by
   dsimp only [L2.KOf]
   refine' My.txt_mk KX G ?h0 ?h1 ?h2 ?h3 ?h4 ?h5 ?h6 ?h7 ?h8 ?h9 ?h10 ?h11 ?h12 ?h13 ?h14 ?h15 ?h16 ?h17 ?h18 ?h19 ?h20 ?h21 ?h22 ?h23 ?h24 ?h25 ?h26 ?h27 ?h28 ?h29 ?h30 ?h31 ?h32 ?h33 ?h34 ?h35 ?h36 ?h37 ?h38 ?h39 ?h40 ?h41 ?h42 ?h43 ?h44 ?h45 ?h46 ?h47 ?h48 ?h49 ?h50 ?h51 ?h52 ?h53 ?h57 ?h58 ?h59 ?h60 ?h61 ?h62 ?h63 ?h64 ?h65 ?h66 ?h67 ?h68 ?h69 ?h70 ?h71 ?h72 ?h73 ?h74 ?h75 ?h76 ?h77 ?h78 ?h79 ?h81 ?h84 ?h87 ?h88 ?h90 ?h93 ?h94 ?h95 ?h96 ?h97 ?h99 ?h100 ?h101 ?h138 ?h139 ?h140 ?h141 ?h142 ?h144 ?h145 ?h146 ?h155 ?h156 ?h157 ?h158 ?h159 ?h160 ?h161 ?h162 ?h163 ?h164 ?h165 ?h166 ?h167 ?h168 ?h169 ?h170 ?h171 ?h172 ?h173
   (case h0 => k_is)
   (case h1 => k_is)
   (case h2 => k_is)
   (case h3 => k_is)
   (case h4 => k_is)
   (case h5 => k_is)
   (case h6 => k_is)
   (case h7 => k_is)
   (case h8 => k_is)
   (case h9 => k_is)
   (case h10 => walk_at "k_dm")
   (case h11 => walk_at "k_dm")
   (case h12 => walk_at "k_dm")
   (case h13 => walk_at "k_dt")
   (case h14 => walk_at "k_dm")
   (case h15 => walk_at "k_dm")
   (case h16 => walk_at "k_dm")
   (case h17 => walk_at "k_dm")
   (case h18 => walk_at "k_dm")
   (case h19 => walk_at "k_dg")
   (case h20 => walk_at "k_dg")
   (case h21 => walk_at "k_dg")
   (case h22 => walk_at "k_dg")
   (case h23 => walk_at "k_dm")
   (case h24 => walk_at "k_dm")
   (case h25 => walk_at "k_dm")
   (case h26 => walk_at "k_dm")
   (case h27 => walk_at "k_dm")
   (case h28 => walk_at "k_dm")
   (case h29 => walk_at "k_dm")
   (case h30 => walk_at "k_dt")
   (case h31 => walk_at "k_dm")
   (case h32 => walk_at "k_dm")
   (case h33 => walk_at "k_dm")
   (case h34 => walk_at "k_dm")
   (case h35 => walk_at "k_dm")
   (case h36 => walk_at "k_dm")
   (case h37 => walk_at "k_dm")
   (case h38 => walk_at "k_dm")
   (case h39 => walk_at "k_dg")
   (case h40 => walk_at "k_dg")
   (case h41 => walk_at "k_dg")
   (case h42 => walk_at "k_dg")
   (case h43 => walk_at "k_dg")
   (case h44 => walk_at "k_dg")
   (case h45 => walk_at "k_dg")
   (case h46 => walk_at "k_dg")
   (case h47 => walk_at "k_dg")
   (case h48 => walk_at "k_dg")
   (case h49 => walk_at "k_dg")
   (case h50 => walk_at "k_dg")
   (case h51 => walk_at "k_dg")
   (case h52 => walk_at "k_dg")
   (case h53 => walk_at "k_dg")
   (case h57 => walk_at "k_ck")
   (case h58 => k_is)
   (case h59 => k_is)
   (case h60 => k_is)
   (case h61 => k_is)
   (case h62 => k_is)
   (case h63 => k_is)
   (case h64 => k_is)
   (case h65 => walk_at "k_ck")
   (case h66 => k_is)
   (case h67 => k_is)
   (case h68 => k_is)
   (case h69 => k_is)
   (case h70 => k_is)
   (case h71 => k_is)
   (case h72 => k_is)
   (case h73 => k_is)
   (case h74 => k_is)
   (case h75 => k_is)
   (case h76 => k_is)
   (case h77 => k_is)
   (case h78 => walk_at "k_xl")
   (case h79 => k_is)
   (case h81 => k_exc)
   (case h84 => k_exc)
   (case h87 => walk_at "k_xl")
   (case h88 => k_is)
   (case h90 => k_exc)
   (case h93 => k_is)
   (case h94 => k_is)
   (case h95 => k_is)
   (case h96 => k_is)
   (case h97 => k_is)
   (case h99 => k_is)
   (case h100 => k_is)
   (case h101 => k_is)
   (case h138 => k_is)
   (case h139 => k_is)
   (case h140 => k_is)
   (case h141 => k_is)
   (case h142 => k_is)
   (case h144 => k_is)
   (case h145 => k_is)
   (case h146 => k_is)
   (case h155 => k_is)
   (case h156 => k_is)
   (case h157 => k_is)
   (case h158 => k_is)
   (case h159 => k_is)
   (case h160 => k_is)
   (case h161 => k_is)
   (case h162 => k_is)
   (case h163 => k_is)
   (case h164 => k_is)
   (case h165 => k_is)
   (case h166 => k_is)
   (case h167 => k_is)
   (case h168 => k_is)
   (case h169 => k_is)
   (case h170 => k_is)
   (case h171 => k_is)
   (case h172 => k_is)
   (case h173 => k_is)
  obtain ⟨a, _, T⟩ := T
  have e0 := hmg.symm.trans T.mg_law
  cases e0
  exact ⟨a.fd_law, fun s u => My.law_binds T s u, fun base kb nb => (My.ok_law T).mono (by decide)⟩
 case S => exact fun K H l ns hl hO hS => ⟨l, ns, rfl, hS, hl, fun _ => rfl⟩
 case C => exact fun H s e s' h => h
