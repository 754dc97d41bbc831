import PyProof.Rows.All
import Wide.All
import OpenK.AllK
import Wide.FinOn
import Lean
import PyProof.EqAt
import PyProof.EqKinds
import PyProof.TupleCall
import PySem.Challenge.RW_wakefew_k23_awake_by_marks
set_option compiler.extract_closed false
set_option Elab.async false
set_option linter.all false
set_option maxRecDepth 100000
namespace L2
open PySem PySem.Spec PyProof.Rows

abbrev Key := Sum Int Str
def keyIs : Key → Value → Bool
  | .inl k, v => Value.isInt k v
  | .inr x, v => Value.isStrOf x v
def keyH (w : World) : Key → Int
  | .inl k => hashInt k
  | .inr x => hashStr w x
theorem keyIs_shape : ∀ {k : Key} {v : Value}, keyIs k v = true → (∃ i t, k = Sum.inl i ∧ v = Value.int i t) ∨ (∃ x t, k = Sum.inr x ∧ v = Value.str x t)
  | .inl i, v, h => by
    obtain ⟨t, e⟩ := Value.isInt_shape (k := i) (v := v) h
    exact .inl ⟨i, t, rfl, e⟩
  | .inr x, v, h => by
    obtain ⟨t, e⟩ := Value.isStrOf_shape (x := x) (v := v) h
    exact .inr ⟨x, t, rfl, e⟩
theorem keyIs_int (i : Int) (t : Tok) : keyIs (.inl i) (.int i t) = true := by simp [keyIs, Value.isInt]
theorem keyIs_str (x : Str) (t : Tok) : keyIs (.inr x) (.str x t) = true := by simp [keyIs, Value.isStrOf]
theorem key_ll (a b : Int) : decide ((Sum.inl a : Key) = Sum.inl b) = (a == b) := by
  by_cases e : a = b
  · subst e; simp
  · have h : ¬ (Sum.inl a : Key) = Sum.inl b := fun q => e (Sum.inl.inj q)
    rw [decide_eq_false h]
    exact (beq_eq_false_iff_ne.mpr e).symm
theorem key_rr (a b : Str) : decide ((Sum.inr a : Key) = Sum.inr b) = decide (a = b) := by
  by_cases e : a = b
  · subst e; simp
  · have h : ¬ (Sum.inr a : Key) = Sum.inr b := fun q => e (Sum.inr.inj q)
    rw [decide_eq_false h, decide_eq_false e]
theorem key_lr (a : Int) (b : Str) : decide ((Sum.inl a : Key) = Sum.inr b) = false := decide_eq_false (fun q => nomatch q)
theorem key_rl (a : Str) (b : Int) : decide ((Sum.inr a : Key) = Sum.inl b) = false := decide_eq_false (fun q => nomatch q)

def mixKind (prog : Program) (w : World) : PySem.KeyKind prog w Key where
  is := keyIs
  hash := keyH w
  inj := fun v a b ha hb => by
    rcases keyIs_shape ha with ⟨i, t, rfl, rfl⟩ | ⟨x, t, rfl, rfl⟩
    · rcases keyIs_shape hb with ⟨j, u, rfl, e⟩ | ⟨y, u, rfl, e⟩
      · injection e with e1 _; rw [e1]
      · exact nomatch e
    · rcases keyIs_shape hb with ⟨j, u, rfl, e⟩ | ⟨y, u, rfl, e⟩
      · exact nomatch e
      · injection e with e1 _; rw [e1]
  byValue := fun k v h => by
    rcases keyIs_shape h with ⟨i, t, rfl, rfl⟩ | ⟨x, t, rfl, rfl⟩ <;> rfl
  pyHash := fun hv h => by
    rcases keyIs_shape hv with ⟨i, t, rfl, rfl⟩ | ⟨x, t, rfl, rfl⟩
    · exact wpAny_pyHash_int h
    · exact wpAny_pyHash_str h
  eqBool := fun hu hv h => by
    rcases keyIs_shape hu with ⟨i, t, rfl, rfl⟩ | ⟨x, t, rfl, rfl⟩
    · rcases keyIs_shape hv with ⟨j, u, rfl, rfl⟩ | ⟨y, u, rfl, rfl⟩
      · rw [key_ll] at h; exact wpAny_eqBool_int h
      · rw [key_lr] at h; exact SeqAt.EqAt.int_str i t y u _ _ _ _ h
    · rcases keyIs_shape hv with ⟨j, u, rfl, rfl⟩ | ⟨y, u, rfl, rfl⟩
      · rw [key_rl] at h; exact SeqAt.EqAt.str_int x t j u _ _ _ _ h
      · rw [key_rr] at h; exact wpAny_eqBool_str h
  «strs» := fun k x t v h => by
    rcases keyIs_shape h with ⟨i, u, rfl, e⟩ | ⟨y, u, rfl, e⟩
    · exact nomatch e
    · injection e with e1 _
      subst e1
      cases v <;> rfl

theorem mixKind_int (prog : Program) (w : World) (i : Int) (t : Tok) : (mixKind prog w).is (.inl i) (.int i t) = true := keyIs_int i t
theorem mixKind_str (prog : Program) (w : World) (x : Str) (t : Tok) : (mixKind prog w).is (.inr x) (.str x t) = true := keyIs_str x t
end L2

namespace L2
open PySem PySem.Spec PyProof.Rows

inductive V where
  | non | bl (b : Bool) | int (i : Int) | str (x : Str) | byt (b : Array UInt8) | flt (b : UInt64) | ref (a : Addr) | ty (n : String)
  deriving DecidableEq

def RelV : V → Value → Prop
  | .non, u => u = Value.none
  | .bl b, u => u = Value.bool b
  | .int i, u => ∃ t, u = Value.int i t
  | .str x, u => ∃ t, u = Value.str x t
  | .byt b, u => ∃ t, u = Value.bytes b t
  | .flt b, u => ∃ t, u = Value.float b t
  | .ref a, u => u = Value.ref a
  | .ty n, u => u = Value.type n

abbrev Vals : List V → List Value → Prop := Paired RelV
theorem Vals.length {xs : List V} {us : List Value} (r : Vals xs us) : xs.length = us.length := Paired.length r
theorem Vals.get : ∀ {xs : List V} {us : List Value} {i : Nat} {x : V}, Vals xs us → xs[i]? = some x → ∃ u, us[i]? = some u ∧ RelV x u
  | _, _, _, _, .nil, e => by simp at e
  | _, _, 0, _, .cons r _, e => by simp at e; subst e; exact ⟨_, rfl, r⟩
  | _, _, i + 1, x, .cons _ t, e => by
    obtain ⟨u, h1, h2⟩ := Vals.get (i := i) (x := x) t (by simpa using e)
    exact ⟨u, by simpa using h1, h2⟩
theorem Vals.append : ∀ {xs ys : List V} {us ws : List Value}, Vals xs us → Vals ys ws → Vals (xs ++ ys) (us ++ ws)
  | _, _, _, _, .nil, s => s
  | _, _, _, _, .cons r t, s => .cons r (Vals.append t s)
theorem Vals.take : ∀ {xs : List V} {us : List Value} (n : Nat), Vals xs us → Vals (xs.take n) (us.take n)
  | _, _, 0, _ => .nil
  | _, _, _ + 1, .nil => .nil
  | _, _, n + 1, .cons r t => .cons r (Vals.take n t)
theorem Vals.drop : ∀ {xs : List V} {us : List Value} (n : Nat), Vals xs us → Vals (xs.drop n) (us.drop n)
  | _, _, 0, r => r
  | _, _, _ + 1, .nil => .nil
  | _, _, n + 1, .cons _ t => Vals.drop n t
def RelO : Option V → Option Value → Prop
  | some v, some u => RelV v u
  | none, none => True
  | _, _ => False
def KV {κ : Type} : List (κ × V) → List (κ × Value) → Prop := Paired fun (p : κ × V) (q : κ × Value) => p.1 = q.1 ∧ RelV p.2 q.2

def kV : Key → V
  | .inl i => .int i
  | .inr x => .str x

inductive HO where
    | lst (xs : List V)
    | tup (xs : List V)
    | dK (kvs : List (Key × V)) | dT (kvs : List (List Key × V))
    | set (S : Int → Bool) (n : Nat)
    | ins (C dx : Addr) (fs : List (Str × V))
    | own (x : Addr)
    | xd (fs : List (Str × V))
    | met (f x : Addr)
    | rng (lo hi : Int)
    | frz (o : Obj) (u : HO)
    | tbl (ps : Array Value)
    | ext (φ : Heap → Prop)

abbrev Hp := Addr → Option HO
def upd (H : Hp) (a : Addr) (o : HO) : Hp := fun b => if b = a then some o else H b
theorem upd_same {H : Hp} {a : Addr} {o : HO} : upd H a o a = some o := by unfold upd; rw [if_pos rfl]
theorem upd_ne {H : Hp} {a b : Addr} {o : HO} (h : b ≠ a) : upd H a o b = H b := by unfold upd; rw [if_neg h]
theorem ne_of {H : Hp} {a b : Addr} {o u : HO} (h : H a = some o) (h' : H b = some u) (d : o ≠ u) : a ≠ b := by
  intro e; subst e; rw [h] at h'; exact d (Option.some.inj h')
theorem ne_of_none {H : Hp} {a b : Addr} {o : HO} (h : H a = some o) (h' : H b = none) : a ≠ b := by
  intro e; subst e; rw [h] at h'; cases h'

section
variable (P : Program) (w : World)
def ObjOk (H : Hp) (h : Heap) (a : Addr) : HO → Prop
  | .lst xs => xs.length ≤ sizeLine ∧ ∃ (its : List Value) (n : Nat), Vals xs its ∧ h.get? a = some { cls := .type "list", data := .seq its.toArray n }
  | .tup xs => xs.length ≤ sizeLine ∧ ∃ its : List Value, Vals xs its ∧ IsTup h a its.toArray
  | .dK kvs => kvs.length ≤ sizeLine ∧ (a == sysModules) = false ∧ ∃ vs, KV kvs vs ∧ h.DictOf (mixKind P w) a vs
  | .dT kvs => kvs.length ≤ sizeLine ∧ (a == sysModules) = false ∧ ∃ xs : List (List Key × Addr × Value),
      Paired (fun (p : List Key × V) (q : List Key × Addr × Value) => p.1 = q.1 ∧ H q.2.1 = some (.tup (p.1.map kV)) ∧ RelV p.2 q.2.2) kvs xs ∧
      ∃ o es ep, h.get? a = some o ∧ o.ExactDict ∧ o.data = .dict es ep ∧ es.toList = xs.map (entryOfKey (tupleKind (mixKind P w))) ∧ (xs.map (·.1)).Nodup
  | .set S n => h.SetOf (intKind P w) a S n
  | .ins C dx fs => H dx = some (.own a) ∧ fs.length ≤ 1000 ∧ dx ≠ a ∧ h.get? a = some (PySem.W.instObj C dx) ∧
      ∃ mA, h.Ns1 dx mA ∧ (∀ f, RelO (fs.lookup f) (mA f)) ∧ PySem.Within mA (fs.map (·.1))
  | .own _ => ∃ o, h.get? a = some o
  | .xd fs => ∃ mA, h.Ns1 a mA ∧ ∀ f, RelO (fs.lookup f) (mA f)
  | .rng lo hi => ∃ t u v, h.get? a = some { cls := .type "range", data := .fields #[.int lo t, .int hi u, .int 1 v] }
  | .frz o u => h.get? a = some o ∧ ObjOk H h a u
  | .tbl ps => h.get? a = some { cls := .none, data := .fields ps }
  | .met f x => h.get? a = some (PySem.W.methodObj (.ref f) (.ref x))
  | .ext φ => φ h ∧ (∃ o, h.get? a = some o) ∧ ∀ h1 h2 : Heap, φ h1 → (∀ o, h1.get? a = some o → h2.get? a = some o) → φ h2
def HOk (H : Hp) (h : Heap) : Prop := ∀ a o, H a = some o → ObjOk P w H h a o
end

section
variable {P : Program} {w : World} {H H' : Hp} {h h' : Heap} {a : Addr} {o : HO}
theorem ObjOk.lt (x : ObjOk P w H h a o) : a < h.objs.size := by
  cases o with
  | lst xs => obtain ⟨_, _, _, _, e⟩ := x; exact Heap.lt_size e
  | tup xs => obtain ⟨_, _, _, p⟩ := x; exact p.lt
  | dK kvs => obtain ⟨_, _, _, _, o, _, _, e, _⟩ := x; exact Heap.lt_size e
  | dT kvs => obtain ⟨_, _, _, _, o, _, _, e, _⟩ := x; exact Heap.lt_size e
  | set S n => obtain ⟨o, _, _, _, e, _⟩ := x; exact Heap.lt_size e
  | ins C dx fs => obtain ⟨_, _, _, e, _⟩ := x; exact Heap.lt_size e
  | own y => obtain ⟨_, e⟩ := x; exact Heap.lt_size e
  | xd fs => obtain ⟨_, ⟨_, _, _, e, _⟩, _⟩ := x; exact Heap.lt_size e
  | rng lo hi => obtain ⟨_, _, _, e⟩ := x; exact Heap.lt_size e
  | frz ob u => obtain ⟨e, _⟩ := x; exact Heap.lt_size e
  | tbl ps => exact Heap.lt_size (show h.get? a = some _ from x)
  | met f y => exact Heap.lt_size (show h.get? a = some _ from x)
  | ext φ => obtain ⟨_, ⟨_, e⟩, _⟩ := x; exact Heap.lt_size e
theorem Paired.mapP {α β : Type} {F G : α → β → Prop} : ∀ {l₁ : List α} {l₂ : List β}, Paired F l₁ l₂ → (∀ a b, F a b → G a b) → Paired G l₁ l₂
  | _, _, .nil, _ => .nil
  | _, _, .cons r t, f => .cons (f _ _ r) (Paired.mapP t f)
theorem ObjOk.stay (x : ObjOk P w H h a o) (k : ∀ b u, (b = a ∨ H b = some (.own a)) → h.get? b = some u → h'.get? b = some u)
    (ho : ∀ b, H b = some (.own a) → H' b = some (.own a)) (ht : ∀ b xs, H b = some (.tup xs) → H' b = some (.tup xs)) : ObjOk P w H' h' a o := by
  induction o with
  | lst xs => obtain ⟨z, its, n, r, e⟩ := x; exact ⟨z, its, n, r, k _ _ (.inl rfl) e⟩
  | tup xs => obtain ⟨z, its, r, ob, e, c⟩ := x; exact ⟨z, its, r, ob, k _ _ (.inl rfl) e, c⟩
  | dK kvs => obtain ⟨z, y, vs, r, ob, es, ep, e, c⟩ := x; exact ⟨z, y, vs, r, ob, es, ep, k _ _ (.inl rfl) e, c⟩
  | dT kvs =>
    obtain ⟨z, y, xs, r, ob, es, ep, e, c⟩ := x
    exact ⟨z, y, xs, Paired.mapP r fun p q z => ⟨z.1, ht _ _ z.2.1, z.2.2⟩, ob, es, ep, k _ _ (.inl rfl) e, c⟩
  | set S n => obtain ⟨ob, es, ep, t, e, c⟩ := x; exact ⟨ob, es, ep, t, k _ _ (.inl rfl) e, c⟩
  | ins C dx fs =>
    obtain ⟨d, z, ne, e, mA, ⟨od, es, ep, e2, c⟩, r⟩ := x
    exact ⟨ho _ d, z, ne, k _ _ (.inl rfl) e, mA, ⟨od, es, ep, k _ _ (.inr d) e2, c⟩, r⟩
  | own y => obtain ⟨ob, e⟩ := x; exact ⟨ob, k _ _ (.inl rfl) e⟩
  | xd fs => obtain ⟨mA, ⟨od, es, ep, e, c⟩, r⟩ := x; exact ⟨mA, ⟨od, es, ep, k _ _ (.inl rfl) e, c⟩, r⟩
  | rng lo hi => obtain ⟨t, u, v, e⟩ := x; exact ⟨t, u, v, k _ _ (.inl rfl) e⟩
  | frz ob u ih => obtain ⟨e, q⟩ := x; exact ⟨k _ _ (.inl rfl) e, ih q⟩
  | tbl ps =>
    have e : h.get? a = some { cls := .none, data := .fields ps } := x
    show h'.get? a = some { cls := .none, data := .fields ps }
    exact k a _ (.inl rfl) e
  | met f y =>
    have e : h.get? a = some (PySem.W.methodObj (.ref f) (.ref y)) := x
    show h'.get? a = some (PySem.W.methodObj (.ref f) (.ref y))
    exact k a _ (.inl rfl) e
  | ext φ => obtain ⟨p, ⟨o, e⟩, st⟩ := x; exact ⟨st _ _ p fun o q => k _ _ (.inl rfl) q, ⟨o, k _ _ (.inl rfl) e⟩, st⟩
theorem HOk.lt (x : HOk P w H h) (e : H a = some o) : a < h.objs.size := (x a o e).lt
theorem HOk.fresh (x : HOk P w H h) (e : h.objs.size ≤ a) : H a = none := by
  cases q : H a with
  | none => rfl
  | some u => exact absurd (Nat.lt_of_lt_of_le (x.lt q) e) (Nat.lt_irrefl _)
theorem HOk.kept (x : HOk P w H h) (k : ∀ b u, h.get? b = some u → h'.get? b = some u) : HOk P w H h' := fun a o e =>
  (x a o e).stay (fun b u _ q => k b u q) (fun _ q => q) fun _ _ q => q
theorem HOk.laid (x : HOk P w H h) (k : ∀ b u, h.get? b = some u → h'.get? b = some u) (hp : h.objs.size ≤ a) (new : ObjOk P w (upd H a o) h' a o) : HOk P w (upd H a o) h' := fun b u e => by
  have hn := x.fresh hp
  by_cases hb : b = a
  · subst hb; rw [upd_same] at e; cases e; exact new
  · rw [upd_ne hb] at e
    exact (x b u e).stay (fun c v _ q => k c v q) (fun c q => by rw [upd_ne (ne_of_none q hn)]; exact q) fun c xs q => by rw [upd_ne (ne_of_none q hn)]; exact q
end

def Rd (H : Hp) (a : Addr) (u : HO) : Prop := H a = some u ∨ ∃ o, H a = some (.frz o u)
theorem Rd.of {H : Hp} {a : Addr} {u : HO} (h : H a = some u) : Rd H a u := .inl h
theorem Rd.ok {P : Program} {w : World} {H : Hp} {h : Heap} {a : Addr} {u : HO} (r : Rd H a u) (x : HOk P w H h) : ObjOk P w H h a u := by
  rcases r with r | ⟨o, r⟩
  · exact x a u r
  · obtain ⟨_, q⟩ := x a _ r
    exact q
def Mut : Option HO → Prop
  | some (.lst _) => True
  | some (.dK _) => True
  | some (.dT _) => True
  | some (.set _ _) => True
  | some (.ins _ _ _) => True
  | some (.ext _) => True
  | _ => False
section
variable {P : Program} {w : World} {H : Hp} {h h' : Heap} {x e : Addr} {o' : HO}
theorem HOk.write (ok : HOk P w H h) (mu : Mut (H x)) (he : e = x ∨ H e = some (.own x)) (k : ∀ b u, b ≠ e → h.get? b = some u → h'.get? b = some u) (heo : ∃ u, h'.get? e = some u)
    (new : ObjOk P w (upd H x o') h' x o') : HOk P w (upd H x o') h' := fun b u q => by
  have nown : ∀ c y, H c = some (.own y) → c ≠ x := fun c y r z => by subst z; rw [r] at mu; exact mu
  have ntup : ∀ c xs, H c = some (.tup xs) → c ≠ x := fun c xs r z => by subst z; rw [r] at mu; exact mu
  by_cases hb : b = x
  · subst hb; rw [upd_same] at q; cases q; exact new
  · rw [upd_ne hb] at q
    by_cases hbe : b = e
    · have q' : H b = some (.own x) := by
        rcases he with z | z
        · exact absurd (hbe.trans z) hb
        · rw [hbe]; exact z
      rw [q] at q'; cases q'
      obtain ⟨v, hv⟩ := heo
      exact ⟨v, by rw [hbe]; exact hv⟩
    · refine (ok b u q).stay (fun c v hc r => k c v ?_ r) (fun c r => by rw [upd_ne (nown c b r)]; exact r) fun c xs r => by rw [upd_ne (ntup c xs r)]; exact r
      rcases hc with rfl | hc
      · exact hbe
      · rintro rfl
        rcases he with z | z
        · exact nown c b hc z
        · rw [hc] at z; cases z; exact hb rfl
end

structure Un (fs ex : List Addr) (H H' : Hp) (h h' : Heap) : Prop where
  keep : ∀ b o, h.get? b = some o → H b = none → b ∉ fs → b ∉ ex → h'.get? b = some o
  slot : ∀ b o, h.get? b = some o → H b = none → b ∈ fs → b ∉ ex → ∃ sl, h'.get? b = some { o with slots := sl }
  free : ∀ b o, h.get? b = some o → H b = none → b ∉ ex → H' b = none
  there : ∀ b o, h.get? b = some o → b ∉ ex → ∃ o', h'.get? b = some o'
  tups : ∀ b xs, H b = some (.tup xs) → H' b = some (.tup xs)
  frzs : ∀ b o u, H b = some (.frz o u) → H' b = some (.frz o u)
  tbls : ∀ b ps, H b = some (.tbl ps) → ∃ more, H' b = some (.tbl (ps ++ more))
section
variable {fs fs' ex ex' : List Addr} {H H1 H2 : Hp} {h h1 h2 h' : Heap} {a x e : Addr} {o : HO}
theorem Un.any (u : Un fs ex H H1 h h1) {b : Addr} {ob : Obj} (q : h.get? b = some ob) (n : H b = none) (hx : b ∉ ex) : ∃ sl, h1.get? b = some { ob with slots := sl } := by
  by_cases hb : b ∈ fs
  · exact u.slot b ob q n hb hx
  · exact ⟨ob.slots, u.keep b ob q n hb hx⟩
theorem Un.kept (k : ∀ b u, h.get? b = some u → h'.get? b = some u) : Un fs ex H H h h' :=
  ⟨fun b ob q _ _ _ => k b ob q, fun b ob q _ _ _ => ⟨ob.slots, k b ob q⟩, fun _ _ _ n _ => n, fun b ob q _ => ⟨ob, k b ob q⟩, fun _ _ q => q, fun _ _ _ q => q, fun _ ps q => ⟨#[], by rw [q]; simp⟩⟩
theorem Un.refl : Un fs ex H H h h := Un.kept fun _ _ q => q
theorem Un.laid (k : ∀ b u, h.get? b = some u → h'.get? b = some u) (hp : h.objs.size ≤ a) (hn : H a = none) : Un fs ex H (upd H a o) h h' where
  keep := fun b u q _ _ _ => k b u q
  slot := fun b u q _ _ _ => ⟨u.slots, k b u q⟩
  free := fun b u q n _ => by rw [upd_ne (Nat.ne_of_lt (Nat.lt_of_lt_of_le (Heap.lt_size q) hp))]; exact n
  there := fun b u q _ => ⟨u, k b u q⟩
  tups := fun b xs q => by rw [upd_ne (ne_of_none q hn)]; exact q
  frzs := fun b u xs q => by rw [upd_ne (ne_of_none q hn)]; exact q
  tbls := fun b ps q => ⟨#[], by rw [upd_ne (ne_of_none q hn), q]; simp⟩
theorem Un.write (mu : Mut (H x)) (he : e = x ∨ H e = some (.own x)) (k : ∀ b u, b ≠ e → h.get? b = some u → h'.get? b = some u) (heo : ∃ u, h'.get? e = some u) : Un fs ex H (upd H x o) h h' := by
  have hx : ∀ b, H b = none → b ≠ x := fun b n z => by subst z; rw [n] at mu; exact mu
  have hb : ∀ b, H b = none → b ≠ e := fun b n z => by
    subst z
    rcases he with r | r
    · exact hx b n r
    · rw [n] at r; cases r
  have hm : ∀ b u, H b = some u → ¬ Mut (some u) → b ≠ x := fun b u q nm z => by subst z; rw [q] at mu; exact nm mu
  refine ⟨fun b u q n _ _ => k b u (hb b n) q, fun b u q n _ _ => ⟨u.slots, k b u (hb b n) q⟩, fun b u q n _ => by rw [upd_ne (hx b n)]; exact n, fun b u q _ => ?_,
    fun b xs q => by rw [upd_ne (hm b _ q fun z => z)]; exact q, fun b u xs q => by rw [upd_ne (hm b _ q fun z => z)]; exact q, fun b ps q => ⟨#[], by rw [upd_ne (hm b _ q fun z => z), q]; simp⟩⟩
  by_cases hbe : b = e
  · subst hbe; exact heo
  · exact ⟨u, k b u hbe q⟩
end

def trk (h : Heap) (H : Hp) : List Addr := (List.range h.objs.size).filter fun a => (H a).isSome
def hidT (h : Heap) (H : Hp) : Heap := PySem.W.hideAll h (trk h H)
theorem hidT_size (h : Heap) (H : Hp) : (hidT h H).objs.size = h.objs.size := PySem.W.hideAll_size _ _
theorem hidT_get {h : Heap} {H : Hp} {b : Addr} {o : Obj} (e : h.get? b = some o) (n : H b = none) : (hidT h H).get? b = some o :=
  PySem.W.hideAll_get _ e fun hm => by
    have q : (H b).isSome = true := (List.mem_filter.mp hm).2
    rw [n] at q; simp at q
theorem of_hidT {h : Heap} {H : Hp} {b : Addr} {o : Obj} (e : (hidT h H).get? b = some o) : h.get? b = some o ∧ H b = none := by
  have e' : h.get? b = some o := PySem.W.of_hideAll (trk h H) e
  refine ⟨e', ?_⟩
  cases q : H b with
  | none => rfl
  | some x =>
    have hm : b ∈ trk h H := List.mem_filter.mpr ⟨List.mem_range.mpr (Heap.lt_size e'), by simp [q]⟩
    have z : (hidT h H).get? b = none := PySem.W.hideAll_none (trk h H) hm
    rw [z] at e; cases e

def allNews (g h : Heap) (L : Addr) : List (Addr × Obj) := (List.range h.objs.size).filterMap fun a => if a = L ∨ (g.get? a).isSome = true then none else (h.get? a).map fun o => (a, o)
def rest (g h : Heap) (L d : Addr) : List (Addr × Obj) := (allNews g h L).filter fun p => decide (p.1 ≠ d)
end L2

namespace L2
open PySem PySem.Spec PyProof.Rows

structure Mod (K : PySem.W.Frag) (mg : Str → Option Value) (base : Heap) : Prop where
  kin : K.In base
  glob : base.Ns mainGlobals mg
  blt : ∃ mb, base.Ns builtinsNs mb ∧ ∀ x : Str, x ≠ "__name__" → mb x = bootBuiltins x
  nolimit : base.NoLimit

structure Cx where
  prog : Program
  w : World
  K : PySem.W.Frag
  mg : Str → Option Value
  base : Heap
  A : Around
  N : List Str
  s₀ : Shared
  H₀ : Hp
  env : Env
  outer : List Env
  stack : List Env
  ex : List Addr
  fn : Str → Bool
  calm : Bool
  pn : List (Addr × Obj)
  xe : Value → Shared → Prop
def frs (l : List Env) : List Addr := l.filterMap (·.frame)
abbrev Cx.fs (X : Cx) : List Addr := frs X.outer

def Vis (sc : Scope) (x : Str) : Prop := sc.names.lookup x = some .local ∨ sc.names.lookup x = some .cell ∨ sc.names.lookup x = some .free
def Loc (sc : Scope) (x : Str) : Prop := sc.names.lookup x = some .local ∨ sc.names.lookup x = some .cell
def Look (env : Env) (h : Heap) (m : Str → Option Value) (x : Str) (u : Value) : Prop :=
  (env.kindOf x = some .local ∧ m x = some u) ∨ ((env.kindOf x = some .cell ∨ env.kindOf x = some .free) ∧ ∃ c, env.cells.lookup x = some c ∧ h.IsCell c (some u))

structure Cx.Ok (X : Cx) : Prop where
  mod : Mod X.K X.mg X.base
  kind : X.env.scope.kind = .function
  glob : X.env.globals = mainGlobals
  blt : X.env.builtins = builtinsNs
  above : X.s₀.heap.objs.size ≤ X.env.locals
  inj : ∀ x y c, X.env.cells.lookup x = some c → X.env.cells.lookup y = some c → x = y
  has : ∀ x, (X.env.kindOf x = some .cell ∨ X.env.kindOf x = some .free) → ∃ c, X.env.cells.lookup x = some c
  cab : ∀ x c, X.fn x = true → X.env.cells.lookup x = some c → X.s₀.heap.objs.size ≤ c
  hd : X.calm = true → X.A.handled = none
  frames : X.A.frames = some X.stack
  stk : X.stack = X.outer ∨ (X.stack = X.env :: X.outer ∧ X.env.frame = some X.env.locals)
  exf : ∀ b ∈ X.ex, b ≠ X.env.locals ∧ ∀ x c, X.env.cells.lookup x = some c → c ≠ b
  bs : ∀ b o, X.base.get? b = some o → X.s₀.heap.get? b = some o ∧ X.H₀ b = none
  bsz : X.base.objs.size ≤ X.s₀.heap.objs.size
  noex : ∀ b o, X.base.get? b = some o → b ∉ X.ex
  exfs : ∀ b ∈ X.ex, b ∉ X.fs
  funs : X.s₀.heap.FunFrames X.base X.outer
  frf : ∀ b ∈ X.fs, X.H₀ b = none

structure Inv (X : Cx) (pins : List (Addr × Obj)) (σ : List (Option V)) (H : Hp) (s : Shared) : Prop where
  ok : X.Ok
  os : s.os = X.s₀.os
  bare : AllBare s.gens
  base : Un X.fs X.ex X.H₀ H X.s₀.heap s.heap
  loc : ∃ m, s.heap.Ns X.env.locals m ∧ ∀ (i : Nat) (x : Str) (v : V), X.N[i]? = some x → σ[i]? = some (some v) → Vis X.env.scope x → ∃ u, RelV v u ∧ Look X.env s.heap m x u
  cell : ∀ x c, X.env.cells.lookup x = some c → ∃ v, s.heap.IsCell c v
  free : H X.env.locals = none
  freeC : ∀ x c, X.env.cells.lookup x = some c → H c = none
  pin : ∀ p ∈ X.pn ++ pins, s.heap.get? p.1 = some p.2 ∧ H p.1 = none ∧ p.1 ≠ X.env.locals ∧ p.1 ∉ X.fs ∧ ∀ v, p.2.data ≠ .cell v
  hok : HOk X.prog X.w H s.heap
  len : σ.length = X.N.length

section
variable {X : Cx} {pins : List (Addr × Obj)} {σ : List (Option V)} {H H' : Hp} {s : Shared} {h' : Heap}

theorem Cx.Ok.nofr (ok : X.Ok) {b : Addr} {o : Obj} (e : X.base.get? b = some o) : b ∉ X.fs := fun hb => by
  have := (ok.funs.mem hb).1
  rw [e] at this; cases this
theorem Inv.bs (I : Inv X pins σ H s) : ∀ b o, X.base.get? b = some o → s.heap.get? b = some o ∧ H b = none := fun b o e =>
  ⟨I.base.keep b o (I.ok.bs b o e).1 (I.ok.bs b o e).2 (I.ok.nofr e) (I.ok.noex b o e), I.base.free b o (I.ok.bs b o e).1 (I.ok.bs b o e).2 (I.ok.noex b o e)⟩
theorem Inv.bk (I : Inv X pins σ H s) : ∀ b o, X.base.get? b = some o → s.heap.get? b = some o := fun b o e => (I.bs b o e).1
theorem Inv.mod (I : Inv X pins σ H s) : Mod X.K X.mg X.base := I.ok.mod
theorem Inv.kIn (I : Inv X pins σ H s) : X.K.In s.heap := I.ok.mod.kin.keeps I.bk
theorem Inv.fr (I : Inv X pins σ H s) : ∃ m, Fr X.base X.env.locals s.heap m :=
  let ⟨m, hn, _⟩ := I.loc
  ⟨m, hn, I.bk, Nat.le_trans I.ok.bsz I.ok.above⟩
theorem Inv.lt (I : Inv X pins σ H s) : X.env.locals < s.heap.objs.size := let ⟨_, hn, _⟩ := I.loc; hn.lt
theorem Inv.sz (I : Inv X pins σ H s) : X.s₀.heap.objs.size ≤ s.heap.objs.size := Nat.le_trans I.ok.above (Nat.le_of_lt I.lt)
theorem Inv.nofs (I : Inv X pins σ H s) {a : Addr} (h : s.heap.objs.size ≤ a) : a ∉ X.fs := fun hb => by
  obtain ⟨_, o, ho, _⟩ := I.ok.funs.mem hb
  exact absurd (Nat.lt_of_lt_of_le (Heap.lt_size ho) (Nat.le_trans I.sz h)) (Nat.lt_irrefl _)
theorem Inv.cne (I : Inv X pins σ H s) : ∀ x c, X.env.cells.lookup x = some c → c ≠ X.env.locals := fun x c e z => by
  obtain ⟨v, o, ho, hd⟩ := I.cell x c e
  obtain ⟨m, ⟨o', es, ep, ho', hd', _⟩, _⟩ := I.loc
  rw [z, ho'] at ho; cases ho; rw [hd'] at hd; cases hd
theorem Inv.funs (I : Inv X pins σ H s) : s.heap.FunFrames X.base X.outer := by
  have all : ∀ (l : List Env), (∀ b ∈ frs l, b ∈ X.fs) → X.s₀.heap.FunFrames X.base l → s.heap.FunFrames X.base l := by
    intro l
    induction l with
    | nil => intro _ _; trivial
    | cons env r ih =>
      intro hs hl
      obtain ⟨hk, ⟨L, o, hf, hn, ho, hd⟩, hr⟩ := hl
      have hL : L ∈ X.fs := hs L (by unfold frs; rw [List.filterMap_cons, hf]; exact List.mem_cons_self)
      obtain ⟨sl, e⟩ := I.base.slot L o ho (I.ok.frf L hL) hL fun z => I.ok.exfs L z hL
      exact ⟨hk, ⟨L, _, hf, hn, e, hd⟩, ih (fun b hb => hs b (by unfold frs; rw [List.filterMap_cons, hf]; exact List.mem_cons_of_mem _ hb)) hr⟩
  exact all X.outer (fun _ hb => hb) I.ok.funs

theorem Inv.stack (I : Inv X pins σ H s) : s.heap.FunFrames X.base X.stack := by
  rcases I.ok.stk with e | ⟨e, hf⟩
  · rw [e]; exact I.funs
  · rw [e]
    obtain ⟨m, hn, _⟩ := I.loc
    refine .cons (by rw [I.ok.kind]; decide) hf hn ?_ I.funs
    exact Heap.get?_none_of_le (Nat.le_trans I.ok.bsz I.ok.above)
theorem Inv.stkSub (I : Inv X pins σ H s) : ∀ b ∈ frs X.stack, b ∈ X.env.locals :: X.fs := fun b hb => by
  rcases I.ok.stk with e | ⟨e, hf⟩
  · rw [e] at hb; exact List.mem_cons_of_mem _ hb
  · rw [e] at hb
    unfold frs at hb
    rw [List.filterMap_cons, hf] at hb
    exact hb
theorem Inv.stkFree (I : Inv X pins σ H s) : ∀ b ∈ frs X.stack, H b = none := fun b hb => by
  rcases List.mem_cons.mp (I.stkSub b hb) with e | hb
  · rw [e]; exact I.free
  · obtain ⟨_, o, ho, _⟩ := I.ok.funs.mem hb
    exact I.base.free b o ho (I.ok.frf b hb) fun z => I.ok.exfs b z hb

theorem Inv.step {g' : Array GenState} {t' : Nat} {d' : Drawn} {ch : List Addr} (I : Inv X pins σ H s)
    (hch : ∀ b ∈ ch, (b ∈ X.ex ∨ X.s₀.heap.objs.size ≤ b) ∧ b ≠ X.env.locals ∧ (∀ x c, X.env.cells.lookup x = some c → c ≠ b) ∧ ∀ p ∈ X.pn ++ pins, p.1 ≠ b)
    (keep : ∀ b o, b ≠ X.env.locals → b ∉ X.fs → b ∉ ch → s.heap.get? b = some o → H b = none → h'.get? b = some o)
    (slot : ∀ b o, b ≠ X.env.locals → b ∈ X.fs → b ∉ ch → s.heap.get? b = some o → H b = none → ∃ sl, h'.get? b = some { o with slots := sl }) (free : ∀ b o, b ∉ ch → s.heap.get? b = some o → H b = none → H' b = none)
    (there : ∀ b o, b ∉ ch → s.heap.get? b = some o → ∃ o', h'.get? b = some o')
    (tups : ∀ b xs, H b = some (.tup xs) → H' b = some (.tup xs)) (frzs : ∀ b o u, H b = some (.frz o u) → H' b = some (.frz o u)) (tbls : ∀ b ps, H b = some (.tbl ps) → ∃ more, H' b = some (.tbl (ps ++ more)))
    (ns : ∀ m, s.heap.Ns X.env.locals m → h'.Ns X.env.locals m) (hok : HOk X.prog X.w H' h') (hg : AllBare g') :
    Inv X pins σ H' { s with heap := h', gens := g', drawn := d', toks := t' } := by
  have neL : ∀ b o, X.s₀.heap.get? b = some o → b ≠ X.env.locals := fun b o e => Nat.ne_of_lt (Nat.lt_of_lt_of_le (Heap.lt_size e) I.ok.above)
  have neC : ∀ b o, X.s₀.heap.get? b = some o → b ∉ X.ex → b ∉ ch := fun b o e hx hb => by
    rcases (hch b hb).1 with z | z
    · exact hx z
    · exact absurd (Nat.lt_of_lt_of_le (Heap.lt_size e) z) (Nat.lt_irrefl _)
  have cellK : ∀ x c, X.env.cells.lookup x = some c → ∀ v, s.heap.IsCell c v → h'.IsCell c v := fun x c e v ⟨o, ho, hd⟩ => by
    have nch : c ∉ ch := fun z => (hch c z).2.2.1 x c e rfl
    by_cases hc : c ∈ X.fs
    · obtain ⟨sl, q⟩ := slot c o (I.cne x c e) hc nch ho (I.freeC x c e)
      exact ⟨_, q, hd⟩
    · exact ⟨o, keep c o (I.cne x c e) hc nch ho (I.freeC x c e), hd⟩
  refine ⟨I.ok, I.os, hg, ⟨fun b o e n hb hx => ?_, fun b o e n hb hx => ?_, fun b o e n hx => ?_, fun b o e hx => ?_, fun b xs e => tups b xs (I.base.tups b xs e), fun b o xs e => frzs b o xs (I.base.frzs b o xs e), fun b ps e => ?_⟩, ?_, fun x c e => ?_, ?_, fun x c e => ?_, fun p hp => ?_, hok, I.len⟩
  · exact keep b o (neL b o e) hb (neC b o e hx) (I.base.keep b o e n hb hx) (I.base.free b o e n hx)
  · obtain ⟨sl, e1⟩ := I.base.slot b o e n hb hx
    obtain ⟨sl', e2⟩ := slot b _ (neL b o e) hb (neC b o e hx) e1 (I.base.free b o e n hx)
    exact ⟨sl', e2⟩
  · obtain ⟨o', e1⟩ := I.base.there b o e hx
    exact free b o' (neC b o e hx) e1 (I.base.free b o e n hx)
  · obtain ⟨o', e1⟩ := I.base.there b o e hx
    exact there b o' (neC b o e hx) e1
  · obtain ⟨m1, e1⟩ := I.base.tbls b ps e
    obtain ⟨m2, e2⟩ := tbls b _ e1
    exact ⟨m1 ++ m2, by rw [e2, Array.append_assoc]⟩
  · obtain ⟨m, hn, hl⟩ := I.loc
    refine ⟨m, ns m hn, fun i x v e1 e2 e3 => ?_⟩
    obtain ⟨u, r, l⟩ := hl i x v e1 e2 e3
    refine ⟨u, r, ?_⟩
    rcases l with l | ⟨k, c, e, z⟩
    · exact .inl l
    · exact .inr ⟨k, c, e, cellK x c e _ z⟩
  · obtain ⟨v, z⟩ := I.cell x c e
    exact ⟨v, cellK x c e v z⟩
  · obtain ⟨m, ⟨o, _, _, ho, _⟩, _⟩ := I.loc
    exact free _ o (fun z => (hch _ z).2.1 rfl) ho I.free
  · obtain ⟨v, o, ho, hd⟩ := I.cell x c e
    exact free c o (fun z => (hch c z).2.2.1 x c e rfl) ho (I.freeC x c e)
  · obtain ⟨e, n, ne, nf, d⟩ := I.pin p hp
    have nch : p.1 ∉ ch := fun z => (hch p.1 z).2.2.2 p hp rfl
    exact ⟨keep p.1 p.2 ne nf nch e n, free p.1 p.2 nch e n, ne, nf, d⟩
theorem Inv.un {t' : Nat} (I : Inv X pins σ H s) (u : Un X.fs [] H H' s.heap h') (hok : HOk X.prog X.w H' h') : Inv X pins σ H' { s with heap := h', toks := t' } := by
  obtain ⟨m, ⟨o, es, ep, ho, r⟩, _⟩ := id I.loc
  obtain ⟨sl, hL⟩ := u.any ho I.free (by simp)
  exact I.step (g' := s.gens) (d' := s.drawn) (ch := []) (fun _ z => nomatch z) (fun b o _ hb _ e n => u.keep b o e n hb (by simp)) (fun b o _ hb _ e n => u.slot b o e n hb (by simp)) (fun b o _ e n => u.free b o e n (by simp)) (fun b o _ e => u.there b o e (by simp)) u.tups u.frzs u.tbls (fun m' hm => by
    obtain ⟨o', es', ep', ho', r'⟩ := hm
    rw [ho] at ho'; cases ho'
    exact ⟨_, es', ep', hL, r'⟩) hok I.bare
theorem Inv.call {g' : Array GenState} {t' : Nat} {d' : Drawn} {ch : List Addr} (I : Inv X pins σ H s) (u : Un (frs X.stack) ch H H' s.heap h') (hok : HOk X.prog X.w H' h') (hg : AllBare g')
    (hch : ∀ b ∈ ch, (b ∈ X.ex ∨ X.s₀.heap.objs.size ≤ b) ∧ b ≠ X.env.locals ∧ (∀ x c, X.env.cells.lookup x = some c → c ≠ b) ∧ ∀ p ∈ X.pn ++ pins, p.1 ≠ b) :
    Inv X pins σ H' { s with heap := h', gens := g', drawn := d', toks := t' } := by
  obtain ⟨m, ⟨o, es, ep, ho, r⟩, _⟩ := id I.loc
  obtain ⟨sl, hL⟩ := u.any ho I.free fun z => (hch _ z).2.1 rfl
  exact I.step (ch := ch) hch (fun b o hL hb hc e n => u.keep b o e n (fun z => (List.mem_cons.mp (I.stkSub b z)).elim hL hb) hc) (fun b o _ _ hc e n => u.any e n hc) (fun b o hc e n => u.free b o e n hc) (fun b o hc e => u.there b o e hc) u.tups u.frzs u.tbls (fun m' hm => by
    obtain ⟨o', es', ep', ho', r'⟩ := hm
    rw [ho] at ho'; cases ho'
    exact ⟨_, es', ep', hL, r'⟩) hok hg
theorem Inv.turned {t' : Nat} {it : Addr} (I : Inv X pins σ H s) (k : ∀ b o, b ≠ it → s.heap.get? b = some o → h'.get? b = some o) (hn : H it = none) (hL : it ≠ X.env.locals)
    (h1 : it ∈ X.ex ∨ X.s₀.heap.objs.size ≤ it) (h2 : ∀ x c, X.env.cells.lookup x = some c → c ≠ it) (h3 : ∀ p ∈ X.pn ++ pins, p.1 ≠ it) : Inv X pins σ H { s with heap := h', toks := t' } := by
  have nit : ∀ b u, H b = some u → b ≠ it := fun b u e z => by rw [z, hn] at e; cases e
  refine I.step (g' := s.gens) (d' := s.drawn) (ch := [it]) (fun b hb => ?_) (fun b o _ _ hc e _ => k b o (fun z => hc (by simp [z])) e) (fun b o _ _ hc e _ => ⟨o.slots, k b o (fun z => hc (by simp [z])) e⟩) (fun _ _ _ _ n => n)
    (fun b o hc e => ⟨o, k b o (fun z => hc (by simp [z])) e⟩) (fun _ _ e => e) (fun _ _ _ e => e) (fun b ps e => ⟨#[], by rw [e]; simp⟩) (fun m hm => ?_) (fun b u e => ?_) I.bare
  · have e : b = it := by simpa using hb
    subst e
    exact ⟨h1, hL, h2, h3⟩
  · obtain ⟨o, es, ep, ho, r⟩ := hm
    exact ⟨o, es, ep, k _ o (Ne.symm hL) ho, r⟩
  · refine (I.hok b u e).stay (fun c v hc q => k c v ?_ q) (fun _ q => q) fun _ _ q => q
    rcases hc with z | z
    · rw [z]; exact nit b u e
    · exact nit c _ z
theorem Inv.tok (I : Inv X pins σ H s) (t : Nat) : Inv X pins σ H { s with toks := t } := I.un (h' := s.heap) (t' := t) Un.refl I.hok
theorem Inv.kept {t' : Nat} (I : Inv X pins σ H s) (k : ∀ b u, s.heap.get? b = some u → h'.get? b = some u) : Inv X pins σ H { s with heap := h', toks := t' } := I.un (Un.kept k) (I.hok.kept k)
theorem Inv.laid {a : Addr} {o : HO} {t' : Nat} (I : Inv X pins σ H s) (k : ∀ b u, s.heap.get? b = some u → h'.get? b = some u) (hp : s.heap.objs.size ≤ a) (new : ObjOk X.prog X.w (upd H a o) h' a o) :
    Inv X pins σ (upd H a o) { s with heap := h', toks := t' } := I.un (Un.laid k hp (I.hok.fresh hp)) (I.hok.laid k hp new)
theorem Inv.write {x e : Addr} {o : HO} {t' : Nat} (I : Inv X pins σ H s) (mu : Mut (H x)) (he : e = x ∨ H e = some (.own x)) (k : ∀ b u, b ≠ e → s.heap.get? b = some u → h'.get? b = some u) (heo : ∃ u, h'.get? e = some u)
    (new : ObjOk X.prog X.w (upd H x o) h' x o) : Inv X pins σ (upd H x o) { s with heap := h', toks := t' } := I.un (Un.write mu he k heo) (I.hok.write mu he k heo new)
theorem Inv.weak {σ' : List (Option V)} (I : Inv X pins σ H s) (hl : σ'.length = σ.length) (w : ∀ (i : Nat) v, σ'[i]? = some (some v) → σ[i]? = some (some v)) : Inv X pins σ' H s :=
  ⟨I.ok, I.os, I.bare, I.base, let ⟨m, hn, hl'⟩ := I.loc; ⟨m, hn, fun i x v e1 e2 e3 => hl' i x v e1 (w i v e2) e3⟩, I.cell, I.free, I.freeC, I.pin, I.hok, hl.trans I.len⟩
theorem Inv.pins_of {pins' : List (Addr × Obj)} (I : Inv X pins σ H s) (h : ∀ p ∈ pins', s.heap.get? p.1 = some p.2 ∧ H p.1 = none ∧ p.1 ≠ X.env.locals ∧ p.1 ∉ X.fs ∧ ∀ v, p.2.data ≠ .cell v) : Inv X pins' σ H s :=
  ⟨I.ok, I.os, I.bare, I.base, I.loc, I.cell, I.free, I.freeC, fun p hp => (List.mem_append.mp hp).elim (fun z => I.pin p (List.mem_append_left _ z)) (h p), I.hok, I.len⟩

theorem nodup_ix {N : List Str} (hN : N.Nodup) {i j : Nat} {x : Str} (a : N[i]? = some x) (b : N[j]? = some x) : i = j := by
  obtain ⟨h1, e1⟩ := List.getElem?_eq_some_iff.mp a
  obtain ⟨h2, e2⟩ := List.getElem?_eq_some_iff.mp b
  exact (List.getElem_inj hN).mp (e1.trans e2.symm)

theorem store_ok2 {M : Model} {A : Around} {E : Value → Shared → Prop} {i : Nat} {x : Str} {v : V} {u : Value} {Q : Unit → Shared → Prop} (I : Inv X pins σ H s) (hN : X.N.Nodup) (hi : X.N[i]? = some x) (hx : Loc X.env.scope x) (r : RelV v u)
    (h : ∀ s', Inv X pins (σ.set i (some v)) H s' → (∃ a, Heap.SameBut a s.heap s'.heap ∧ (a = X.env.locals ∨ X.env.cells.lookup x = some a)) → Q () s') (hf : X.fn x = true ∨ X.env.scope.names.lookup x = some .local := by first | exact .inl rfl | exact .inr rfl | assumption) : wpAny M A (storeName X.env x u) Q E s := by
  obtain ⟨m, hn, hl⟩ := id I.loc
  have hcls : (X.env.scope.kind == .class || (X.env.scope.kind == .module && X.env.locals != X.env.globals)) = false := by rw [I.ok.kind]; rfl
  have hiσ : i < σ.length := by rw [I.len]; exact (List.getElem?_eq_some_iff.mp hi).1
  have cne := I.cne
  have tracked : ∀ {a : Addr} {h' : Heap}, (∃ o, s.heap.get? a = some o ∧ H a = none) → Heap.SameBut a s.heap h' → HOk X.prog X.w H h' := fun {a h'} ha hs b ob e => by
    obtain ⟨_, _, hfree⟩ := ha
    refine (I.hok b ob e).stay (fun c w' hc q => (hs.2 c ?_).trans q) (fun _ q => q) fun _ _ q => q
    rintro rfl
    rcases hc with rfl | hc
    · rw [hfree] at e; cases e
    · rw [hfree] at hc; cases hc
  rcases hx with hk | hk
  · refine wpAny_storeName_local hk hn (fun h' hn' hs => ?_) hcls
    obtain ⟨oL, _, _, hoL, _⟩ := id hn
    refine h _ ⟨I.ok, I.os, I.bare, ⟨fun b o e n hb hx => ?_, fun b o e n hb hx => ?_, I.base.free, fun b o e hx => ?_, I.base.tups, I.base.frzs, I.base.tbls⟩, ⟨_, hn', fun j y v' e1 e2 e3 => ?_⟩, fun y c e => ?_, I.free, I.freeC, fun p hp => ?_, tracked ⟨oL, hoL, I.free⟩ hs, by simpa using I.len⟩ ⟨_, hs, .inl rfl⟩
    · exact (hs.2 b (Nat.ne_of_lt (Nat.lt_of_lt_of_le (Heap.lt_size e) I.ok.above))).trans (I.base.keep b o e n hb hx)
    · obtain ⟨sl, e1⟩ := I.base.slot b o e n hb hx
      exact ⟨sl, (hs.2 b (Nat.ne_of_lt (Nat.lt_of_lt_of_le (Heap.lt_size e) I.ok.above))).trans e1⟩
    · obtain ⟨o', e1⟩ := I.base.there b o e hx
      exact ⟨o', (hs.2 b (Nat.ne_of_lt (Nat.lt_of_lt_of_le (Heap.lt_size e) I.ok.above))).trans e1⟩
    · by_cases hj : j = i
      · subst hj
        rw [hi] at e1; cases e1
        rw [List.getElem?_set_self hiσ] at e2
        cases e2
        exact ⟨u, r, .inl ⟨hk, by simp⟩⟩
      · rw [List.getElem?_set_ne (Ne.symm hj)] at e2
        obtain ⟨u', r', q⟩ := hl j y v' e1 e2 e3
        refine ⟨u', r', ?_⟩
        rcases q with ⟨k, e⟩ | ⟨k, c, e, z⟩
        · refine .inl ⟨k, ?_⟩
          have : y ≠ x := fun e => hj (nodup_ix hN e1 (e ▸ hi))
          simp [this, e]
        · exact .inr ⟨k, c, e, z.sameBut hs (cne y c e)⟩
    · obtain ⟨w', z⟩ := I.cell y c e
      exact ⟨w', z.sameBut hs (cne y c e)⟩
    · obtain ⟨e, n, ne, nf, d⟩ := I.pin p hp
      exact ⟨(hs.2 p.1 ne).trans e, n, ne, nf, d⟩
  · have hfn : X.fn x = true := by
      rcases hf with z | z
      · exact z
      · rw [z] at hk; cases hk
    obtain ⟨c, hc⟩ := I.ok.has x (.inl hk)
    obtain ⟨w', z⟩ := I.cell x c hc
    refine wpAny_storeName_cell I.ok.kind hk hc z (fun h' hc' hs => ?_)
    obtain ⟨oc, hoc, hocd⟩ := id z
    refine h { s with heap := h' } ⟨I.ok, I.os, I.bare, ⟨fun b o e n hb hx => ?_, fun b o e n hb hx => ?_, I.base.free, fun b o e hx => ?_, I.base.tups, I.base.frzs, I.base.tbls⟩, ⟨m, hn.sameBut hs (Ne.symm (cne x c hc)), fun j y v' e1 e2 e3 => ?_⟩, fun y c' e => ?_, I.free, I.freeC, fun p hp => ?_, tracked ⟨oc, hoc, I.freeC x c hc⟩ hs, by simpa using I.len⟩ ⟨c, hs, .inr hc⟩
    · exact (hs.2 b (Nat.ne_of_lt (Nat.lt_of_lt_of_le (Heap.lt_size e) (I.ok.cab x c hfn hc)))).trans (I.base.keep b o e n hb hx)
    · obtain ⟨sl, e1⟩ := I.base.slot b o e n hb hx
      exact ⟨sl, (hs.2 b (Nat.ne_of_lt (Nat.lt_of_lt_of_le (Heap.lt_size e) (I.ok.cab x c hfn hc)))).trans e1⟩
    · obtain ⟨o', e1⟩ := I.base.there b o e hx
      exact ⟨o', (hs.2 b (Nat.ne_of_lt (Nat.lt_of_lt_of_le (Heap.lt_size e) (I.ok.cab x c hfn hc)))).trans e1⟩
    · by_cases hj : j = i
      · subst hj
        rw [hi] at e1; cases e1
        rw [List.getElem?_set_self hiσ] at e2
        cases e2
        exact ⟨u, r, .inr ⟨.inl hk, c, hc, hc'⟩⟩
      · rw [List.getElem?_set_ne (Ne.symm hj)] at e2
        obtain ⟨u', r', q⟩ := hl j y v' e1 e2 e3
        refine ⟨u', r', ?_⟩
        rcases q with q | ⟨k, c', e, z'⟩
        · exact .inl q
        · refine .inr ⟨k, c', e, z'.sameBut hs ?_⟩
          rintro rfl
          exact hj (nodup_ix hN e1 (I.ok.inj _ _ _ e hc ▸ hi))
    · by_cases hcc : c' = c
      · subst hcc; exact ⟨_, hc'⟩
      · obtain ⟨w2, z2⟩ := I.cell y c' e
        exact ⟨w2, z2.sameBut hs hcc⟩
    · obtain ⟨e, n, ne, nf, d⟩ := I.pin p hp
      refine ⟨(hs.2 p.1 ?_).trans e, n, ne, nf, d⟩
      intro q
      rw [q, hoc] at e
      have q' : oc = p.2 := Option.some.inj e
      exact d w' (by rw [← q']; exact hocd)
theorem store_ok {M : Model} {A : Around} {E : Value → Shared → Prop} {i : Nat} {x : Str} {v : V} {u : Value} {Q : Unit → Shared → Prop} (I : Inv X pins σ H s) (hN : X.N.Nodup) (hi : X.N[i]? = some x) (hx : Loc X.env.scope x) (r : RelV v u)
    (h : ∀ s', Inv X pins (σ.set i (some v)) H s' → Q () s') (hf : X.fn x = true ∨ X.env.scope.names.lookup x = some .local := by first | exact .inl rfl | exact .inr rfl | assumption) : wpAny M A (storeName X.env x u) Q E s :=
  store_ok2 I hN hi hx r (fun s' I' _ => h s' I') hf
theorem Inv.call' {s' : Shared} {ch : List Addr} (I : Inv X pins σ H s) (ho : s'.os = s.os) (u : Un (frs X.stack) ch H H' s.heap s'.heap) (hok : HOk X.prog X.w H' s'.heap) (hg : AllBare s'.gens)
    (hch : ∀ b ∈ ch, (b ∈ X.ex ∨ X.s₀.heap.objs.size ≤ b) ∧ b ≠ X.env.locals ∧ (∀ x c, X.env.cells.lookup x = some c → c ≠ b) ∧ ∀ p ∈ X.pn ++ pins, p.1 ≠ b) : Inv X pins σ H' s' := by
  obtain ⟨h', g', d', t', o'⟩ := s'
  have e : o' = s.os := ho
  subst e
  exact I.call (g' := g') (t' := t') (d' := d') u hok hg hch
end

abbrev XK := Value → Option Addr → Hp → Prop
abbrev St := List (Option V)
abbrev VK := V → Hp → Prop
abbrev TE := St → Hp → VK → Prop
abbrev TT := St → Hp → (Bool → Hp → Prop) → Prop
abbrev TA := St → Hp → (List V → Hp → Prop) → Prop
structure Ends where
  nx : St → Hp → Prop
  rt : VK
  bk : St → Hp → Prop := fun _ _ => False
  ct : St → Hp → Prop := fun _ _ => False
abbrev TS := Ends → St → Hp → Prop

def EP (X : Cx) (pins : List (Addr × Obj)) (σ : St) (Q : VK) (u : Value) (s' : Shared) : Prop := ∃ v H', Inv X pins σ H' s' ∧ RelV v u ∧ Q v H'
def TP (X : Cx) (pins : List (Addr × Obj)) (σ : St) (Q : Bool → Hp → Prop) (b : Bool) (s' : Shared) : Prop := ∃ H', Inv X pins σ H' s' ∧ Q b H'
def AP (X : Cx) (pins : List (Addr × Obj)) (σ : St) (Q : List V → Hp → Prop) (us : List Value) (s' : Shared) : Prop := ∃ vs H', Inv X pins σ H' s' ∧ Vals vs us ∧ Q vs H'
def SP (X : Cx) (pins : List (Addr × Obj)) (D : Ends) (f : Flow) (s' : Shared) : Prop :=
  match f with
  | .next => ∃ σ' H', Inv X pins σ' H' s' ∧ D.nx σ' H'
  | .brk => ∃ σ' H', Inv X pins σ' H' s' ∧ D.bk σ' H'
  | .cont => ∃ σ' H', Inv X pins σ' H' s' ∧ D.ct σ' H'
  | .ret u => ∃ v σ' H', Inv X pins σ' H' s' ∧ RelV v u ∧ D.rt v H'

def PE (X : Cx) (e : Expr) (t : TE) : Prop :=
  ∀ (pins : List (Addr × Obj)) (s : Shared) (σ : St) (H : Hp) (Q : VK), Inv X pins σ H s → t σ H Q → wpAny (model X.prog X.w) X.A (eval e X.env) (EP X pins σ Q) X.xe s
def PT (X : Cx) (e : Expr) (t : TT) : Prop :=
  ∀ (pins : List (Addr × Obj)) (s : Shared) (σ : St) (H : Hp) (Q : Bool → Hp → Prop), Inv X pins σ H s → t σ H Q → wpAny (model X.prog X.w) X.A (isTrue e X.env (eval e X.env)) (TP X pins σ Q) X.xe s
def PW (X : Cx) (e : Expr) (t : TT) : Prop :=
  ∀ (whole : Sem Value) (pins : List (Addr × Obj)) (s : Shared) (σ : St) (H : Hp) (Q : Bool → Hp → Prop), Inv X pins σ H s → t σ H Q → wpAny (model X.prog X.w) X.A (isTrue e X.env whole) (TP X pins σ Q) X.xe s
theorem PW.pt {X : Cx} {e : Expr} {t : TT} (h : PW X e t) : PT X e t := h _
def PA (X : Cx) (es : List Expr) (t : TA) : Prop :=
  ∀ (pos : Pos) (pins : List (Addr × Obj)) (s : Shared) (σ : St) (H : Hp) (Q : List V → Hp → Prop), Inv X pins σ H s → t σ H Q → wpAny (model X.prog X.w) X.A (spliced (backTo pos (starEach es X.env))) (AP X pins σ Q) X.xe s
def PS (X : Cx) (st : Stmt) (t : TS) : Prop :=
  ∀ (pins : List (Addr × Obj)) (s : Shared) (σ : St) (H : Hp) (D : Ends), Inv X pins σ H s → t D σ H → wpAny (model X.prog X.w) X.A (exec st X.env) (SP X pins D) X.xe s
def PSs (X : Cx) (st : List Stmt) (t : TS) : Prop :=
  ∀ (pins : List (Addr × Obj)) (s : Shared) (σ : St) (H : Hp) (D : Ends), Inv X pins σ H s → t D σ H → wpAny (model X.prog X.w) X.A (execs st X.env) (SP X pins D) X.xe s
theorem thn {α : Type} {t : Sem α} {Q Q' : α → Shared → Prop} {M : Model} {A : Around} {E : Value → Shared → Prop} {s : Shared} (h : wpAny M A t Q E s) (hQ : ∀ a s, Q a s → Q' a s) : wpAny M A t Q' E s := wpAny_mono h hQ fun _ _ x => x
end L2

namespace L2
open PySem PySem.Spec PyProof.Rows
section
variable {X : Cx}

theorem bin {a b : Expr} {ta tb : TE} (ha : PE X a ta) (hb : PE X b tb) {pins : List (Addr × Obj)} {s : Shared} {σ : St} {H : Hp} {R : V → V → Hp → Prop} (I : Inv X pins σ H s) (h : ta σ H fun x H1 => tb σ H1 fun y H2 => R x y H2)
    {α : Type} {Q : α → Shared → Prop} {f : Value → Value → Sem α}
    (hf : ∀ v u s2 x y H2, Inv X pins σ H2 s2 → RelV x v → RelV y u → R x y H2 → wpAny (model X.prog X.w) X.A (f v u) Q X.xe s2) :
    wpAny (model X.prog X.w) X.A (eval a X.env) (fun v s₁ => wpAny (model X.prog X.w) X.A (eval b X.env) (fun u s₂ => wpAny (model X.prog X.w) X.A (f v u) Q X.xe s₂) X.xe s₁) X.xe s := by
  refine thn (ha pins s σ H _ I h) fun v s1 ⟨x, H1, I1, r1, q1⟩ => ?_
  refine thn (hb pins s1 σ H1 _ I1 q1) fun u s2 ⟨y, H2, I2, r2, q2⟩ => ?_
  exact hf v u s2 x y H2 I2 r1 r2 q2

def tVar (i : Nat) : TE := fun σ H Q => ∃ v, σ[i]? = some (some v) ∧ Q v H
def tC (v : V) : TE := fun _ H Q => Q v H
theorem pe_var {i : Nat} {x : Str} {pos : Pos} (hN : X.N[i]? = some x) (hv : Vis X.env.scope x) (hd : (x == ("__debug__" : Str)) = false := by decide) (hcd : (x == ("__classdict__" : Str)) = false := by decide) : PE X (.Name x pos) (tVar i) := by
  intro pins s σ H Q I h
  obtain ⟨v, e, h⟩ := h
  obtain ⟨m, hn, hl⟩ := I.loc
  obtain ⟨u, r, l⟩ := hl i x v hN e hv
  have fin : EP X pins σ Q u s := ⟨v, H, I, r, h⟩
  rcases l with ⟨hk, hm⟩ | ⟨hk, c, hc, hcell⟩
  · exact wpAny_Name (wpAny_loadName_local I.ok.kind hk hn hm fin) hd
  · rcases hk with hk | hk
    · exact wpAny_Name (wpAny_loadName_cell I.ok.kind hk hc hcell fin) hd
    · exact wpAny_Name (wpAny_loadName_free I.ok.kind hk hc hcell fin hcd) hd
theorem pe_int {i j pos} : PE X (.Constant (.int i) j pos) (tC (.int i)) := fun _ _ _ H _ I h => wpAny_Constant_int ⟨.int i, H, I.tok _, ⟨_, rfl⟩, h⟩
theorem pe_bl {b j pos} : PE X (.Constant (.bool b) j pos) (tC (.bl b)) := fun _ _ _ H _ I h => Constant_bool ⟨.bl b, H, I, rfl, h⟩
theorem pe_non {j pos} : PE X (.Constant .none j pos) (tC .non) := fun _ _ _ H _ I h => Constant_none ⟨.non, H, I, rfl, h⟩
theorem pe_str {x j pos} : PE X (.Constant (.str x) j pos) (tC (.str x)) := fun _ _ _ H _ I h => Calls.Constant_str ⟨.str x, H, I.tok _, ⟨_, rfl⟩, h⟩

def Gl (X : Cx) (x : Str) : Prop := X.env.kindOf x = some .globalImplicit
theorem ld_glob {E : Value → Shared → Prop} {pins : List (Addr × Obj)} {s : Shared} {σ : St} {H : Hp} {x : Str} {u : Value} {pos : Pos} {Q : Value → Shared → Prop} (I : Inv X pins σ H s) (hg : Gl X x) (hm : X.mg x = some u) (h : Q u s)
    (hd : (x == ("__debug__" : Str)) = false := by decide) : wpAny (model X.prog X.w) X.A (eval (.Name x pos) X.env) Q E s :=
  Calls.Name_function_global I.ok.kind hg (Calls.loadGlobal_global (by rw [I.ok.glob]; exact I.mod.glob.keeps I.bk) hm h) hd
theorem ld_blt {E : Value → Shared → Prop} {pins : List (Addr × Obj)} {s : Shared} {σ : St} {H : Hp} {x : Str} {u : Value} {pos : Pos} {Q : Value → Shared → Prop} (I : Inv X pins σ H s) (hg : Gl X x) (hm : X.mg x = none) (hv : bootBuiltins x = some u) (h : Q u s)
    (hn : x ≠ "__name__" := by decide) (hd : (x == ("__debug__" : Str)) = false := by decide) : wpAny (model X.prog X.w) X.A (eval (.Name x pos) X.env) Q E s := by
  obtain ⟨mb, h1, h2⟩ := I.mod.blt
  exact Calls.Name_function_global I.ok.kind hg (Calls.loadGlobal_builtin (by rw [I.ok.glob]; exact I.mod.glob.keeps I.bk) hm (by rw [I.ok.blt]; exact h1.keeps I.bk) ((h2 x hn).trans hv) h) hd
theorem pe_glob {x : Str} {v : V} {u : Value} {pos : Pos} (hg : Gl X x) (hm : X.mg x = some u) (r : RelV v u) (hd : (x == ("__debug__" : Str)) = false := by decide) : PE X (.Name x pos) (tC v) :=
  fun _ _ _ H _ I h => ld_glob I hg hm ⟨v, H, I, r, h⟩ hd
theorem pe_bltn {x : Str} {v : V} {u : Value} {pos : Pos} (hg : Gl X x) (hm : X.mg x = none) (hv : bootBuiltins x = some u) (r : RelV v u) (hn : x ≠ "__name__" := by decide) (hd : (x == ("__debug__" : Str)) = false := by decide) : PE X (.Name x pos) (tC v) :=
  fun _ _ _ H _ I h => ld_blt I hg hm hv ⟨v, H, I, r, h⟩ hn hd

def t2I (ta tb : TE) (k : Int → Int → Hp → Prop) : St → Hp → Prop := fun σ H => ta σ H fun x H1 => tb σ H1 fun y H2 => ∃ i j, x = .int i ∧ y = .int j ∧ k i j H2
def tAdd (ta tb : TE) : TE := fun σ H Q => t2I ta tb (fun i j H2 => Q (.int (i + j)) H2) σ H
def tSub (ta tb : TE) : TE := fun σ H Q => t2I ta tb (fun i j H2 => Q (.int (i - j)) H2) σ H
def tMul (ta tb : TE) : TE := fun σ H Q => t2I ta tb (fun i j H2 => (-(2 ^ 64) < i ∧ i < 2 ^ 64) ∧ Q (.int (i * j)) H2) σ H
variable {a b : Expr} {ta tb : TE} {pos : Pos}
def PC (X : Cx) (op : CmpOp) (a b : Expr) (t : TE) : Prop :=
  ∀ (pins : List (Addr × Obj)) (s : Shared) (σ : St) (H : Hp) (Q : VK), Inv X pins σ H s → t σ H Q →
    wpAny (model X.prog X.w) X.A (eval a X.env) (fun v s₁ => wpAny (model X.prog X.w) X.A (eval b X.env) (fun u s₂ => wpAny (model X.prog X.w) X.A (compareOp op v u) (EP X pins σ Q) X.xe s₂) X.xe s₁) X.xe s
def tCmp (p : Int → Int → Bool) (ta tb : TE) : TE := fun σ H Q => t2I ta tb (fun i j H2 => Q (.bl (p i j)) H2) σ H
abbrev tLt : TE → TE → TE := tCmp fun i j => decide (i < j)
abbrev tLe : TE → TE → TE := tCmp fun i j => decide (i ≤ j)
abbrev tGt : TE → TE → TE := tCmp fun i j => decide (j < i)
abbrev tGe : TE → TE → TE := tCmp fun i j => decide (j ≤ i)
abbrev tEqI : TE → TE → TE := tCmp fun i j => decide (i = j)
abbrev tNeI : TE → TE → TE := tCmp fun i j => !decide (i = j)
def tIsN (ta : TE) : TE := fun σ H Q => ta σ H fun x H1 => Q (.bl (decide (x = .non))) H1
def tNotN (ta : TE) : TE := fun σ H Q => ta σ H fun x H1 => Q (.bl (!decide (x = .non))) H1
def tB (t : TE) : TT := fun σ H Q => t σ H fun x H1 => ∃ c, x = .bl c ∧ Q c H1
theorem pe_cmp {op : CmpOp} {t : TE} (h : PC X op a b t) (h1 : behindInMarks op b = false := by first | exact nobehind _ (by decide) (by decide) | rfl) : PE X (.Compare a [op] [b] pos) t := fun pins s σ H Q I hw => wpAny_Compare1 (h pins s σ H Q I hw) h1
theorem pt_cmp {op : CmpOp} {t : TE} (h : PC X op a b t) (h1 : behindInMarks op b = false := by first | exact nobehind _ (by decide) (by decide) | rfl) : PT X (.Compare a [op] [b] pos) (tB t) := by
  intro pins s σ H Q I hw
  refine wpAny_isTrue_Compare1 (thn (h pins s σ H _ I hw) fun v s1 h1 => thn h1 fun u s2 h2 => thn h2 fun c s3 ⟨x, H1, I1, r1, q1⟩ => ?_) h1
  obtain ⟨d, rfl, q⟩ := q1
  cases r1
  exact wpAny_truthy_bool ⟨H1, I1, q⟩
variable {tA tB' : TT} {rest : List Expr}
def tAnd (t u : TT) : TT := fun σ H Q => t σ H fun c H1 => if c = true then u σ H1 Q else Q false H1
def tOr (t u : TT) : TT := fun σ H Q => t σ H fun c H1 => if c = true then Q true H1 else u σ H1 Q
def tNot (t : TT) : TT := fun σ H Q => t σ H fun c H1 => Q (!c) H1
theorem pw_and1 (ha : PT X a tA) : PW X (.BoolOp .And [a] pos) tA := by
  intro wh pins s σ H Q I h
  refine isTrue_and (thn (ha pins s σ H Q I h) fun c s1 e => ?_)
  cases c with
  | true => exact isTrue_and_nil e
  | false => exact e
theorem pw_or1 (ha : PT X a tA) : PW X (.BoolOp .Or [a] pos) tA := by
  intro wh pins s σ H Q I h
  refine isTrue_or (thn (ha pins s σ H Q I h) fun c s1 e => ?_)
  cases c with
  | false => exact isTrue_or_nil e
  | true => exact e
theorem pw_and (ha : PT X a tA) (hb : PW X (.BoolOp .And (b :: rest) pos) tB') : PW X (.BoolOp .And (a :: b :: rest) pos) (tAnd tA tB') := by
  intro wh pins s σ H Q I h
  refine isTrue_and (thn (ha pins s σ H _ I h) fun c s1 ⟨H1, I1, q1⟩ => ?_)
  cases c with
  | true => exact hb wh pins s1 σ H1 Q I1 q1
  | false => exact ⟨H1, I1, q1⟩
theorem pw_or (ha : PT X a tA) (hb : PW X (.BoolOp .Or (b :: rest) pos) tB') : PW X (.BoolOp .Or (a :: b :: rest) pos) (tOr tA tB') := by
  intro wh pins s σ H Q I h
  refine isTrue_or (thn (ha pins s σ H _ I h) fun c s1 ⟨H1, I1, q1⟩ => ?_)
  cases c with
  | true => exact ⟨H1, I1, q1⟩
  | false => exact hb wh pins s1 σ H1 Q I1 q1
theorem pt_not (ha : PT X a tA) : PT X (.UnaryOp .Not a pos) (tNot tA) := by
  intro pins s σ H Q I h
  exact isTrue_not (ha pins s σ H (fun c H1 => Q (!c) H1) I h)
def tAndV (ta tb : TE) : TE := fun σ H Q => ta σ H fun x H1 => ∃ c, x = .bl c ∧ if c = true then tb σ H1 Q else Q (.bl false) H1
def tOrV (ta tb : TE) : TE := fun σ H Q => ta σ H fun x H1 => ∃ c, x = .bl c ∧ if c = true then Q (.bl true) H1 else tb σ H1 Q
def tNotV (ta : TE) : TE := fun σ H Q => ta σ H fun x H1 => ∃ c, x = .bl c ∧ Q (.bl (!c)) H1
theorem pe_one {op} {t : TE} (h : PE X a t) : PE X (.BoolOp op [a] pos) t := fun pins s σ H Q I hw => BoolOp_one (h pins s σ H Q I hw)
theorem pe_and (ha : PE X a ta) (hb : PE X (.BoolOp .And (b :: rest) pos) tb) : PE X (.BoolOp .And (a :: b :: rest) pos) (tAndV ta tb) := by
  intro pins s σ H Q I h
  refine BoolOp_and (thn (ha pins s σ H _ I h) fun v s1 ⟨x, H1, I1, r1, q1⟩ => ?_)
  obtain ⟨c, rfl, q1⟩ := q1
  cases r1
  refine wpAny_truthy_bool ?_
  cases c with
  | true => exact hb pins s1 σ H1 Q I1 q1
  | false => exact ⟨.bl false, H1, I1, rfl, q1⟩
theorem pe_not (ha : PE X a ta) : PE X (.UnaryOp .Not a pos) (tNotV ta) := by
  intro pins s σ H Q I h
  refine UnaryOp_ (thn (ha pins s σ H _ I h) fun v s1 ⟨x, H1, I1, r1, q1⟩ => ?_)
  obtain ⟨c, rfl, q1⟩ := q1
  cases r1
  exact not_of (wpAny_truthy_bool ⟨.bl (!c), H1, I1, rfl, q1⟩)
def tIf (t : TT) (ta tb : TE) : TE := fun σ H Q => t σ H fun c H1 => if c = true then ta σ H1 Q else tb σ H1 Q
end
end L2

namespace L2
open PySem PySem.Spec PyProof.Rows

def SqL (K : PySem.W.Frag) (H : Hp) (a : Addr) (xs : List V) : Prop :=
  Rd H a (.lst xs) ∨
    ∃ (o : Obj) (its : Array Value) (n : Nat), K.lookup a = some o ∧ o.cls = .type "list" ∧ o.dict = none ∧ o.data = .seq its n ∧ its.size ≤ sizeLine ∧ Vals xs its.toList
def SqT (K : PySem.W.Frag) (H : Hp) (a : Addr) (xs : List V) : Prop :=
  Rd H a (.tup xs) ∨
    ∃ (o : Obj) (its : Array Value) (n : Nat), K.lookup a = some o ∧ o.cls = .type "tuple" ∧ o.data = .seq its n ∧ its.size ≤ sizeLine ∧ Vals xs its.toList
def absV : Value → Option V
  | .none => some .non
  | .bool b => some (.bl b)
  | .int i _ => some (.int i)
  | .str x _ => some (.str x)
  | .bytes b _ => some (.byt b)
  | .float b _ => some (.flt b)
  | .ref a => some (.ref a)
  | .type n => some (.ty n)
  | _ => none
theorem RelV.abs {x : V} {u : Value} (r : RelV x u) : absV u = some x := by
  cases x with
  | non => cases r; rfl
  | bl _ => cases r; rfl
  | int _ => obtain ⟨t, rfl⟩ := r; rfl
  | str _ => obtain ⟨t, rfl⟩ := r; rfl
  | byt _ => obtain ⟨t, rfl⟩ := r; rfl
  | flt _ => obtain ⟨t, rfl⟩ := r; rfl
  | ref _ => cases r; rfl
  | ty _ => cases r; rfl
theorem RelV.inj {x y : V} {u : Value} (r : RelV x u) (q : RelV y u) : x = y := Option.some.inj (r.abs.symm.trans q.abs)
theorem Vals.inj : ∀ {xs ys : List V} {us : List Value}, Vals xs us → Vals ys us → xs = ys
  | _, _, _, .nil, .nil => rfl
  | _, _, _, .cons r t, .cons r' t' => by rw [r.inj r', Vals.inj t t']
section
variable {X : Cx} {pins : List (Addr × Obj)} {σ : St} {H : Hp} {s : Shared} {a : Addr} {xs ys : List V}
theorem SqL.of {K : PySem.W.Frag} (h : H a = some (.lst xs)) : SqL K H a xs := .inl (.inl h)
theorem SqT.of {K : PySem.W.Frag} (h : H a = some (.tup xs)) : SqT K H a xs := .inl (.inl h)
theorem Inv.list (I : Inv X pins σ H s) (h : SqL X.K H a xs) : ∃ its : List Value, Vals xs its ∧ PlainL s.heap a its.toArray ∧ xs.length ≤ sizeLine := by
  rcases h with h | ⟨o, its, n, hk, hc, hd, hs, hz, r⟩
  · obtain ⟨z, its, n, r, e⟩ := h.ok I.hok
    exact ⟨its, r, ⟨_, n, e, rfl, rfl, rfl⟩, z⟩
  · refine ⟨its.toList, r, ⟨o, n, I.kIn a o hk, hc, hd, by simpa using hs⟩, ?_⟩
    have e := r.length
    simp only [Array.length_toList] at e
    omega
theorem Inv.tuple (I : Inv X pins σ H s) (h : SqT X.K H a xs) : ∃ its : List Value, Vals xs its ∧ IsTup s.heap a its.toArray ∧ xs.length ≤ sizeLine := by
  rcases h with h | ⟨o, its, n, hk, hc, hs, hz, r⟩
  · obtain ⟨z, its, r, p⟩ := h.ok I.hok
    exact ⟨its, r, p, z⟩
  · refine ⟨its.toList, r, ⟨o, I.kIn a o hk, hc, n, by simpa using hs⟩, ?_⟩
    have e := r.length
    simp only [Array.length_toList] at e
    omega
theorem Inv.list_inj (I : Inv X pins σ H s) (h : SqL X.K H a xs) (h' : SqL X.K H a ys) : xs = ys := by
  obtain ⟨its, r, ⟨o, n, e, _, _, d⟩, _⟩ := I.list h
  obtain ⟨its', r', ⟨o', n', e', _, _, d'⟩, _⟩ := I.list h'
  rw [e] at e'; cases e'
  rw [d] at d'
  injection d' with d1 _
  have : its = its' := by simpa using congrArg Array.toList d1
  subst this
  exact r.inj r'
end

abbrev Cx.wish (X : Cx) (E : Value → Shared → Prop) : Cx := { X with xe := E }
abbrev Cx.nox (X : Cx) : Cx := X.wish fun _ _ => False
theorem Cx.Ok.wish {X : Cx} (ok : X.Ok) (E : Value → Shared → Prop) : (X.wish E).Ok :=
  ⟨ok.mod, ok.kind, ok.glob, ok.blt, ok.above, ok.inj, ok.has, ok.cab, ok.hd, ok.frames, ok.stk, ok.exf, ok.bs, ok.bsz, ok.noex, ok.exfs, ok.funs, ok.frf⟩
theorem Cx.Ok.unwish {X : Cx} {E : Value → Shared → Prop} (ok : (X.wish E).Ok) : X.Ok :=
  ⟨ok.mod, ok.kind, ok.glob, ok.blt, ok.above, ok.inj, ok.has, ok.cab, ok.hd, ok.frames, ok.stk, ok.exf, ok.bs, ok.bsz, ok.noex, ok.exfs, ok.funs, ok.frf⟩
section
variable {X : Cx} {pins : List (Addr × Obj)} {σ : St} {H : Hp} {s : Shared} {E : Value → Shared → Prop}
theorem Inv.wish (I : Inv X pins σ H s) (E : Value → Shared → Prop) : Inv (X.wish E) pins σ H s := ⟨I.ok.wish E, I.os, I.bare, I.base, I.loc, I.cell, I.free, I.freeC, I.pin, I.hok, I.len⟩
theorem Inv.unwish (I : Inv (X.wish E) pins σ H s) : Inv X pins σ H s := ⟨I.ok.unwish, I.os, I.bare, I.base, I.loc, I.cell, I.free, I.freeC, I.pin, I.hok, I.len⟩
theorem SP.unwish {D : Ends} {f : Flow} {s' : Shared} (h : SP (X.wish E) pins D f s') : SP X pins D f s' := by
  cases f with
  | next => obtain ⟨σ', H', I, q⟩ := h; exact ⟨σ', H', I.unwish, q⟩
  | brk => obtain ⟨σ', H', I, q⟩ := h; exact ⟨σ', H', I.unwish, q⟩
  | cont => obtain ⟨σ', H', I, q⟩ := h; exact ⟨σ', H', I.unwish, q⟩
  | ret u => obtain ⟨v, σ', H', I, r, q⟩ := h; exact ⟨v, σ', H', I.unwish, r, q⟩
theorem PSs.nox {st : List Stmt} {t : TS} (h : PSs X.nox st t) : PSs X st t := fun pins s σ H D I hw =>
  wpAny_mono (h pins s σ H D (I.wish _) hw) (fun _ _ q => q.unwish) fun _ _ z => False.elim z
end

section
variable {X : Cx} {st : Stmt} {rest : List Stmt} {t u : TS} {e : Expr} {te : TE} {pos : Pos}
def tNext : TS := fun D σ H => D.nx σ H
def tSeq (t u : TS) : TS := fun D σ H => t { D with nx := u D } σ H
theorem pss_nil : PSs X [] tNext := fun _ _ σ H _ I h => wpAny_execs_nil ⟨σ, H, I, h⟩
theorem pss_one (h1 : PS X st t) : PSs X [st] t := by
  intro pins s σ H D I h
  refine wpAny_execs_cons (thn (h1 pins s σ H D I h) fun f s1 q => ?_)
  cases f with
  | next => exact wpAny_execs_nil q
  | ret v => exact q
  | brk => exact q
  | cont => exact q
def tBreak : TS := fun D σ H => D.bk σ H
def tCont : TS := fun D σ H => D.ct σ H
theorem Inv.quiet {pins : List (Addr × Obj)} {σ : St} {H : Hp} {s : Shared} (I : Inv X pins σ H s) : interactive X.env = false := by simp [interactive, I.ok.kind]
def tDrop (te : TE) : TS := fun D σ H => te σ H fun _ H1 => D.nx σ H1
theorem ps_expr (he : PE X e te) (hs : swapsWith e none pos.line X.env = pure false := by rfl) : PS X (.Expr e pos) (tDrop te) := by
  intro pins s σ H D I h
  exact wpAny_Expr_any (thn (he pins s σ H _ I h) fun v s1 ⟨x, H1, I1, r1, q1⟩ => ⟨σ, H1, I1, q1⟩) I.quiet hs
def tRet (te : TE) : TS := fun D σ H => te σ H D.rt
theorem ps_ret (he : PE X e te) : PS X (.Return (some e) pos) (tRet te) := by
  intro pins s σ H D I h
  exact wpAny_Return_some (thn (he pins s σ H _ I h) fun v s1 ⟨x, H1, I1, r1, q1⟩ => ⟨x, σ, H1, I1, r1, q1⟩)
def tRetN : TS := fun D _ H => D.rt .non H
def tIfS (c : TT) (t u : TS) : TS := fun D σ H => c σ H fun b H1 => if b = true then t D σ H1 else u D σ H1
theorem ps_if {c : Expr} {a b : List Stmt} {tc : TT} (hc : PT X c tc) (ha : PSs X a t) (hb : PSs X b u) : PS X (.If c a b pos) (tIfS tc t u) := by
  intro pins s σ H D I h
  refine wpAny_If (thn (hc pins s σ H _ I h) fun d s1 ⟨H1, I1, q1⟩ => ?_)
  cases d with
  | true => exact ha pins s1 σ H1 D I1 q1
  | false => exact hb pins s1 σ H1 D I1 q1
def tNever : TS := fun _ _ _ => False
theorem ps_never : PS X st tNever := fun _ _ _ _ _ _ h => h.elim
end

abbrev TG := V → St → Hp → (St → Hp → Prop) → Prop
abbrev TGs := List V → St → Hp → (St → Hp → Prop) → Prop
def PG (X : Cx) (target : Expr) (t : TG) : Prop :=
  ∀ (pins : List (Addr × Obj)) (s : Shared) (σ : St) (H : Hp) (v : V) (u : Value) (Q : St → Hp → Prop), Inv X pins σ H s → RelV v u → t v σ H Q →
    wpAny (model X.prog X.w) X.A (assign target X.env u) (fun _ s' => ∃ σ' H', Inv X pins σ' H' s' ∧ Q σ' H') X.xe s
def PGs (X : Cx) (ts : List Expr) (t : TGs) : Prop :=
  ∀ (pins : List (Addr × Obj)) (s : Shared) (σ : St) (H : Hp) (vs : List V) (us : List Value) (Q : St → Hp → Prop), Inv X pins σ H s → Vals vs us → t vs σ H Q →
    wpAny (model X.prog X.w) X.A (assignInOrder ((assignEach ts X.env).map (·.2)) us) (fun _ s' => ∃ σ' H', Inv X pins σ' H' s' ∧ Q σ' H') X.xe s
abbrev TSet := V → V → V → Hp → (Hp → Prop) → Prop
def PSet (X : Cx) (t : TSet) : Prop :=
  ∀ (pins : List (Addr × Obj)) (s : Shared) (σ : St) (H : Hp) (o i v : V) (ov iv u : Value) (Q : Hp → Prop), Inv X pins σ H s → RelV o ov → RelV i iv → RelV v u → t o i v H Q →
    wpAny (model X.prog X.w) X.A (setItem ov iv u) (fun _ s' => ∃ H', Inv X pins σ H' s' ∧ Q H') X.xe s
abbrev TIp := V → V → Hp → VK → Prop
def PIp (X : Cx) (op : Operator) (t : TIp) : Prop :=
  ∀ (pins : List (Addr × Obj)) (s : Shared) (σ : St) (H : Hp) (x y : V) (v u : Value) (Q : VK), Inv X pins σ H s → RelV x v → RelV y u → t x y H Q →
    wpAny (model X.prog X.w) X.A (inplaceOp op v u) (EP X pins σ Q) X.xe s
section
variable {X : Cx} {pos : Pos}
def gName (i : Nat) : TG := fun v σ H Q => Q (σ.set i (some v)) H
theorem pg_name {i : Nat} {x : Str} (hN : X.N.Nodup) (hi : X.N[i]? = some x) (hx : Loc X.env.scope x) (hf : X.fn x = true ∨ X.env.scope.names.lookup x = some .local := by first | exact .inl rfl | exact .inr rfl | assumption) : PG X (.Name x pos) (gName i) := by
  intro pins s σ H v u Q I r h
  exact wpAny_assign_Name (store_ok I hN hi hx r (fun s' I' => ⟨_, H, I', h⟩) hf)
def gNil : TGs := fun vs σ H Q => vs = [] ∧ Q σ H
def gCons (t : TG) (u : TGs) : TGs := fun vs σ H Q => ∃ v r, vs = v :: r ∧ t v σ H fun σ' H' => u r σ' H' Q
theorem pgs_nil : PGs X [] gNil := by
  intro pins s σ H vs us Q I r h
  obtain ⟨e, h⟩ := h
  subst e
  cases r
  exact assignInOrder_nil ⟨σ, H, I, h⟩
theorem pgs_cons {e : Expr} {es : List Expr} {t : TG} {u : TGs} (h1 : PG X e t) (h2 : PGs X es u)
    (hs : (assignEach (e :: es) X.env).map (·.2) = assign e X.env :: (assignEach es X.env).map (·.2) := by rfl) : PGs X (e :: es) (gCons t u) := by
  intro pins s σ H vs us Q I r h
  obtain ⟨v, vr, e1, h⟩ := h
  subst e1
  cases r with
  | cons r rr =>
    rw [hs]
    refine assignInOrder_cons (thn (h1 pins s σ H _ _ _ I r h) fun _ s1 ⟨σ1, H1, I1, q1⟩ => ?_)
    exact h2 pins s1 σ1 H1 _ _ Q I1 rr q1
def gTup (K : PySem.W.Frag) (n : Nat) (t : TGs) : TG := fun v σ H Q => ∃ a xs, v = .ref a ∧ SqT K H a xs ∧ xs.length = n ∧ t xs σ H Q
theorem pg_tup {es : List Expr} {k : Nat} {t : TGs} {n : Nat} (hc : X.calm = true) (h : PGs X es t)
    (hn : (assignEach es X.env).length = n := by rfl) (hst : (assignEach es X.env).findIdx? (·.1) = none := by rfl) : PG X (.Tuple es k pos) (gTup X.K n t) := by
  intro pins s σ H v u Q I r hw
  obtain ⟨a, xs, e1, hq, hl, hw⟩ := hw
  subst e1
  cases r
  obtain ⟨its, rv, ht, hz⟩ := I.tuple hq
  refine assign_Tuple_tuple (I.ok.hd hc) ht (by simp [hn, ← hl, rv.length]) hst fun h' hx => ?_
  have I1 : Inv X pins σ H { s with heap := h' } := I.kept (t' := s.toks) fun b o e => hx b o (Nat.ne_of_lt (Heap.lt_size e)) e
  exact h pins _ σ H xs _ Q I1 (by simpa using rv) hw
def gSub (to ti : TE) (t : TSet) : TG := fun v σ H Q => to σ H fun o H1 => ti σ H1 fun i H2 => t o i v H2 fun H3 => Q σ H3
def tAsg (te : TE) (g : TG) : TS := fun D σ H => te σ H fun x H1 => g x σ H1 D.nx
theorem ps_set {i : Nat} {x : Str} {e : Expr} {te : TE} {pos' : Pos} (hN : X.N.Nodup) (hi : X.N[i]? = some x) (hx : Loc X.env.scope x) (he : PE X e te) (hs : swapsWith e (some (.Name x pos')) pos.line X.env = pure false := by rfl) (hf : X.fn x = true ∨ X.env.scope.names.lookup x = some .local := by first | exact .inl rfl | exact .inr rfl | assumption) :
    PS X (.Assign [.Name x pos'] e pos) (tAsg te (gName i)) := by
  intro pins s σ H D I h
  refine wpAny_Assign_Name (thn (he pins s σ H _ I h) fun v s1 ⟨y, H1, I1, r1, q1⟩ => ?_) hs
  exact store_ok I1 hN hi hx r1 (fun s2 I2 => ⟨_, H1, I2, q1⟩) hf
def tPar (i j : Nat) (ta : TA) : TS := fun D σ H => ta σ H fun vs H1 => ∃ v w, vs = [v, w] ∧ D.nx ((σ.set i (some v)).set j (some w)) H1
def tAug (i : Nat) (te : TE) (ti : TIp) : TS := fun D σ H => ∃ x, σ[i]? = some (some x) ∧ te σ H fun y H1 => ti x y H1 fun z H2 => D.nx (σ.set i (some z)) H2
def tAugS (to ti te : TE) (tget : V → V → Hp → VK → Prop) (tip : TIp) (tset : TSet) : TS := fun D σ H => to σ H fun o H1 => ti σ H1 fun i H2 => tget o i H2 fun x H3 => te σ H3 fun y H4 => tip x y H4 fun z H5 => tset o i z H5 fun H6 => D.nx σ H6
def PGet (X : Cx) (t : V → V → Hp → VK → Prop) : Prop :=
  ∀ (pins : List (Addr × Obj)) (s : Shared) (σ : St) (H : Hp) (o i : V) (ov iv : Value) (Q : VK), Inv X pins σ H s → RelV o ov → RelV i iv → t o i H Q →
    wpAny (model X.prog X.w) X.A (getItem ov iv) (EP X pins σ Q) X.xe s
def ipI (f : Int → Int → Int) : TIp := fun x y H Q => ∃ i j, x = .int i ∧ y = .int j ∧ Q (.int (f i j)) H
end

section
variable {X : Cx} {pos : Pos}
def tWhile (c : TT) (tb : TS) : TS := fun D σ H => ∃ W : Nat → St → Hp → Prop, (∃ m, W m σ H) ∧ ∀ m σ H, W m σ H →
  c σ H fun b H1 => if b = true then ∃ N : St → Hp → Prop, (∀ σ' H', N σ' H' → ∃ m', m' < m ∧ W m' σ' H') ∧ tb { D with nx := N, ct := N, bk := D.nx } σ H1 else D.nx σ H1
theorem ps_while {c : Expr} {body : List Stmt} {tc : TT} {tb : TS} (hp : PassesOwn (model X.prog X.w) X.A X.env X.xe) (hc : PT X c tc) (hb : PSs X body tb) : PS X (.While c body [] pos) (tWhile tc tb) := by
  intro pins s σ H D I h
  obtain ⟨W, ⟨m0, w0⟩, turn⟩ := h
  refine wpAny_While (codeAny_whileLoop (fun n s' => ∃ σ' H', Inv X pins σ' H' s' ∧ W n σ' H') ?_ m0 ⟨σ, H, I, w0⟩)
  rintro n s1 ⟨σ1, H1, I1, w1⟩
  refine wpAny_passesOwn hp (thn (hc pins s1 σ1 H1 _ I1 (turn n σ1 H1 w1)) fun b s2 ⟨H2, I2, q2⟩ => ?_)
  cases b with
  | true =>
    obtain ⟨N, hN, q2⟩ := q2
    rw [if_pos rfl]
    refine wpAny_passesOwn hp (thn (hb pins s2 σ1 H2 _ I2 q2) fun f s3 q3 => ?_)
    cases f with
    | next =>
      obtain ⟨σ3, H3, I3, n3⟩ := q3
      obtain ⟨m', hm, w3⟩ := hN σ3 H3 n3
      exact ⟨m', hm, σ3, H3, I3, w3⟩
    | cont =>
      obtain ⟨σ3, H3, I3, n3⟩ := q3
      obtain ⟨m', hm, w3⟩ := hN σ3 H3 n3
      exact ⟨m', hm, σ3, H3, I3, w3⟩
    | brk => exact q3
    | ret v => exact q3
  | false =>
    rw [if_neg Bool.false_ne_true]
    exact wpAny_execs_nil ⟨σ1, H2, I2, q2⟩
end

structure It where
  go : Nat → Hp → Prop
  yld : Nat → Hp → V → Hp → Prop
  stop : Nat → Hp → Prop
def FpOk (X : Cx) (pins : List (Addr × Obj)) (H : Hp) (b : Addr) : Prop :=
  H b = none ∧ b ≠ X.env.locals ∧ b ∉ X.fs ∧ (b ∈ X.ex ∨ X.s₀.heap.objs.size ≤ b) ∧ (∀ x c, X.env.cells.lookup x = some c → c ≠ b) ∧ ∀ p ∈ X.pn ++ pins, p.1 ≠ b
theorem Inv.fpOk {X : Cx} {pins : List (Addr × Obj)} {σ : St} {H H' : Hp} {s : Shared} {b : Addr} (I : Inv X pins σ H s) (hb : s.heap.objs.size ≤ b) (hn : H' b = none) : FpOk X pins H' b := by
  refine ⟨hn, Nat.ne_of_gt (Nat.lt_of_lt_of_le I.lt hb), I.nofs hb, .inr (Nat.le_trans I.sz hb), fun x c e z => ?_, fun p hp z => ?_⟩
  · obtain ⟨v, q⟩ := I.cell x c e
    exact absurd (Nat.lt_of_lt_of_le q.lt (by rw [z]; exact hb)) (Nat.lt_irrefl _)
  · exact absurd (Nat.lt_of_lt_of_le (Heap.lt_size (I.pin p hp).1) (by rw [z]; exact hb)) (Nat.lt_irrefl _)
structure Turn (P : Program) (w : World) (K : PySem.W.Frag) (tg : Expr) (J : It) (fp : List Addr) (it : Addr) (tn : Nat → Heap → Prop) : Prop where
  mem : it ∈ fp
  obj : ∀ i h, tn i h → ∀ b ∈ fp, ∃ o, h.get? b = some o ∧ ∀ v, o.data ≠ .cell v
  keep : ∀ i h h', tn i h → (∀ b ∈ fp, ∀ o, h.get? b = some o → h'.get? b = some o) → tn i h'
  item : ∀ (X : Cx), X.prog = P → X.w = w → X.K = K → X.calm = true → ∀ (i : Nat) (pins : List (Addr × Obj)) (s : Shared) (σ : St) (H : Hp) (E : Value → Shared → Prop), Inv X pins σ H s → (∀ b ∈ fp, FpOk X pins H b) → tn i s.heap → J.go i H →
    wpAny (model P w) X.A (pyNext (.ref it)) (fun r s1 => ∃ u, r = some u ∧
      wpAny (model P w) X.A (letOwnedTupleGo tg (.ref it) u) (fun _ s2 => ∃ x H', Inv X pins σ H' s2 ∧ RelV x u ∧ J.yld i H x H' ∧ tn (i + 1) s2.heap ∧ ∀ b ∈ fp, H' b = none) E s1) E s
  done : ∀ (X : Cx), X.prog = P → X.w = w → X.K = K → X.calm = true → ∀ (i : Nat) (pins : List (Addr × Obj)) (s : Shared) (σ : St) (H : Hp) (E : Value → Shared → Prop), Inv X pins σ H s → (∀ b ∈ fp, FpOk X pins H b) → tn i s.heap → J.stop i H →
    wpAny (model P w) X.A (pyNext (.ref it)) (fun r s1 => r = none ∧ Inv X pins σ H s1) E s
  self : ∀ (A : Around) (i : Nat) (s : Shared) (Q : Value → Shared → Prop) (E : Value → Shared → Prop), tn i s.heap → Q (.ref it) s → wpAny (model P w) A (pyIter (.ref it)) Q E s
abbrev TI := St → Hp → (It → Hp → Prop) → Prop
def PIE (X : Cx) (pins : List (Addr × Obj)) (σ : St) (tg : Expr) (R : It → Hp → Prop) (itv : Value) (s2 : Shared) : Prop :=
  ∃ (it : Addr) (fp : List Addr) (tn : Nat → Heap → Prop) (J : It) (H' : Hp), itv = .ref it ∧ Inv X pins σ H' s2 ∧ Turn X.prog X.w X.K tg J fp it tn ∧ tn 0 s2.heap ∧ (∀ b ∈ fp, FpOk X pins H' b) ∧ R J H'
def PI (X : Cx) (tg iter : Expr) (wi : TI) : Prop :=
  ∀ (pins : List (Addr × Obj)) (s : Shared) (σ : St) (H : Hp) (R : It → Hp → Prop), Inv X pins σ H s → wi σ H R →
    wpAny (model X.prog X.w) X.A (eval iter X.env) (fun v s1 => wpAny (model X.prog X.w) X.A (pyIter v) (PIE X pins σ tg R) X.xe s1) X.xe s

theorem go_of {M : Model} {A : Around} {E : Value → Shared → Prop} {s : Shared} {tg : Expr} {it : Addr} {u : Value} {o : Obj} {n : String} {vs : Array Value} {Q : Unit → Shared → Prop} (ho : s.heap.get? it = some o) (hc : o.cls = .type n) (hd : o.data = .fields vs)
    (hn : ["enumerate", "zip", "dict_itemiterator", "dict_reverseitemiterator", "odict_iterator", "itertools.zip_longest", "itertools.pairwise"].contains n = false) (hQ : Q () s) : wpAny M A (letOwnedTupleGo tg (.ref it) u) Q E s := by
  unfold letOwnedTupleGo
  cases tg <;> first
    | exact wpAny_pure hQ
    | (cases u <;> first
        | exact wpAny_pure hQ
        | (refine wpAny_bind (wpAny_load ho ?_)
           rw [hc, hd]
           show wpAny M A (if (["enumerate", "zip", "dict_itemiterator", "dict_reverseitemiterator", "odict_iterator", "itertools.zip_longest", "itertools.pairwise"].contains n && vs[0]? == some (rawInt _)) = true then _ else _) Q E s
           rw [if_neg (by intro h; rw [hn, Bool.false_and] at h; cases h)]
           exact wpAny_pure hQ))

def Itl (K : PySem.W.Frag) (a : Addr) : It :=
  ⟨fun i H => ∃ xs x, SqL K H a xs ∧ xs[i]? = some x, fun i H x H' => H' = H ∧ ∀ xs, SqL K H a xs → xs[i]? = some x, fun i H => ∃ xs, SqL K H a xs ∧ xs.length ≤ i⟩
def Itt (K : PySem.W.Frag) (a : Addr) : It :=
  ⟨fun i H => ∃ xs x, SqT K H a xs ∧ xs[i]? = some x, fun i H x H' => H' = H ∧ ∀ xs, SqT K H a xs → xs[i]? = some x, fun i H => ∃ xs, SqT K H a xs ∧ xs.length ≤ i⟩
def Itr (lo : Int) (n : Nat) : It := ⟨fun i _ => i < n, fun i H x H' => H' = H ∧ x = .int (lo + i), fun i _ => n ≤ i⟩
theorem turn_list {P : Program} {w : World} {K : PySem.W.Frag} {tg : Expr} (a it : Addr) : Turn P w K tg (Itl K a) [it] it (fun i h => h.IsListIter it a i) where
  mem := by simp
  obj := fun i h st b hb => by
    have e : b = it := by simpa using hb
    subst e
    obtain ⟨o, e, c, d⟩ := st
    exact ⟨o, e, fun v z => by rw [d] at z; cases z⟩
  keep := fun i h h' st k => st.at fun o e => k it (by simp) o e
  item := by
    intro X hP hw hK hc i pins s σ H E I hf st hg
    subst hP hw hK
    obtain ⟨xs, x, hq, hx⟩ := hg
    obtain ⟨its, rv, p, hz⟩ := I.list hq
    obtain ⟨u, hu, ru⟩ := rv.get hx
    obtain ⟨f0, f1, f2, f3, f4, f5⟩ := hf it (by simp)
    refine wpAny_pyNext_list_item st p.isList (x := u) (by simpa using hu) fun h' st' sb => ?_
    have I1 : Inv X pins σ H { s with heap := h' } := I.turned (t' := s.toks) (fun b o hb e => (sb.2 b hb).trans e) f0 f1 f3 f4 f5
    obtain ⟨o, e, c, d⟩ := id st'
    exact ⟨u, rfl, go_of (s := { s with heap := h' }) e c d (by decide) ⟨x, H, I1, ru, ⟨rfl, fun ys hy => by rw [I.list_inj hy hq]; exact hx⟩, st', fun b hb => (hf b hb).1⟩⟩
  done := by
    intro X hP hw hK hc i pins s σ H E I hf st hg
    subst hP hw hK
    obtain ⟨xs, hq, hx⟩ := hg
    obtain ⟨its, rv, p, hz⟩ := I.list hq
    obtain ⟨f0, f1, f2, f3, f4, f5⟩ := hf it (by simp)
    have hl := rv.length
    exact wpAny_pyNext_list_end (I.ok.hd hc) st p.isList (by simp; omega) fun h' eb => ⟨rfl, I.turned (t' := s.toks) (fun b o hb e => eb b o hb e) f0 f1 f3 f4 f5⟩
  self := fun _ _ _ _ _ st h => wpAny_pyIter_listiter st h
end L2

namespace L2
open PySem PySem.Spec PyProof.Rows
section
variable {X : Cx} {tg : Expr}
def iList (K : PySem.W.Frag) (tl : TE) : TI := fun σ H R => tl σ H fun x H1 => ∃ a, x = .ref a ∧ (∃ xs, SqL K H1 a xs) ∧ R (Itl K a) H1
def iTup (K : PySem.W.Frag) (tl : TE) : TI := fun σ H R => tl σ H fun x H1 => ∃ a, x = .ref a ∧ (∃ xs, SqT K H1 a xs) ∧ R (Itt K a) H1
theorem pi_list {l : Expr} {tl : TE} (hl : PE X l tl) : PI X tg l (iList X.K tl) := by
  intro pins s σ H R I h
  refine thn (hl pins s σ H _ I h) fun v s1 ⟨x, H1, I1, r1, q1⟩ => ?_
  obtain ⟨a, e, ⟨xs, hq⟩, q⟩ := q1
  subst e
  cases r1
  obtain ⟨its, rv, p, hz⟩ := I1.list hq
  refine wpAny_pyIter_list p.isList ?_
  refine ⟨s1.heap.objs.size, [s1.heap.objs.size], _, _, H1, rfl, I1.kept (t' := s1.toks) fun b o e => Heap.get?_push_of_some _ e, turn_list a _, ⟨_, Heap.get?_push_size _ rfl, rfl, rfl⟩, fun b hb => ?_, q⟩
  have e : b = s1.heap.objs.size := by simpa using hb
  subst e
  exact I1.fpOk (Nat.le_refl _) (I1.hok.fresh (Nat.le_refl _))
def iRng1 (ta : TA) : TI := fun σ H R => ta σ H fun vs H1 => ∃ j : Int, vs = [.int j] ∧ -(2 ^ 62) ≤ j ∧ j < 2 ^ 62 ∧ R (Itr 0 j.toNat) H1
def iRng2 (ta : TA) : TI := fun σ H R => ta σ H fun vs H1 => ∃ i j : Int, vs = [.int i, .int j] ∧ (-(2 ^ 62) ≤ i ∧ i < 2 ^ 62 ∧ -(2 ^ 62) ≤ j ∧ j < 2 ^ 62) ∧ R (Itr i (j - i).toNat) H1
def tFor (wi : TI) (g : TG) (tb : TS) : TS := fun D σ H => wi σ H fun J H1 => ∃ W : Nat → Nat → St → Hp → Prop, (∃ m, W 0 m σ H1) ∧ ∀ i m σ H, W i m σ H →
  (J.stop i H ∧ D.nx σ H) ∨ (J.go i H ∧ ∃ N : St → Hp → Prop, (∀ σ' H', N σ' H' → ∃ m', m' < m ∧ W (i + 1) m' σ' H') ∧ ∀ x H', J.yld i H x H' → g x σ H' fun σ2 H2 => tb { D with nx := N, ct := N, bk := D.nx } σ2 H2)
def pinsAt (fp : List Addr) (h : Heap) : List (Addr × Obj) := fp.filterMap fun b => (h.get? b).map fun o => (b, o)
theorem mem_pinsAt {fp : List Addr} {h : Heap} {b : Addr} {o : Obj} (hb : b ∈ fp) (e : h.get? b = some o) : (b, o) ∈ pinsAt fp h := List.mem_filterMap.mpr ⟨b, hb, by rw [e]; rfl⟩
theorem of_pinsAt {fp : List Addr} {h : Heap} {p : Addr × Obj} (hp : p ∈ pinsAt fp h) : p.1 ∈ fp ∧ h.get? p.1 = some p.2 := by
  obtain ⟨b, hb, e⟩ := List.mem_filterMap.mp hp
  cases q : h.get? b with
  | none => rw [q] at e; cases e
  | some o =>
    rw [q] at e
    have e' : (b, o) = p := Option.some.inj e
    subst e'
    exact ⟨hb, q⟩
theorem Inv.pinned {pins : List (Addr × Obj)} {σ : St} {H : Hp} {s : Shared} {fp : List Addr} (I : Inv X pins σ H s) (hf : ∀ b ∈ fp, FpOk X pins H b) (ho : ∀ b ∈ fp, ∃ o, s.heap.get? b = some o ∧ ∀ v, o.data ≠ .cell v) : Inv X (pins ++ pinsAt fp s.heap) σ H s :=
  I.pins_of fun p hp => (List.mem_append.mp hp).elim (fun z => I.pin p (List.mem_append_right _ z)) fun z => by
    obtain ⟨hb, e⟩ := of_pinsAt z
    obtain ⟨f0, f1, f2, _⟩ := hf p.1 hb
    obtain ⟨o, e', d⟩ := ho p.1 hb
    rw [e] at e'; cases e'
    exact ⟨e, f0, f1, f2, d⟩
theorem Inv.unpinned {pins pl : List (Addr × Obj)} {σ : St} {H : Hp} {s : Shared} (I : Inv X (pins ++ pl) σ H s) : Inv X pins σ H s := I.pins_of fun p hp => I.pin p (List.mem_append_right _ (List.mem_append_left _ hp))
theorem ps_for {iter : Expr} {body : List Stmt} {wi : TI} {g : TG} {tb : TS} {pos : Pos} (hp : PassesOwn (model X.prog X.w) X.A X.env X.xe) (hc : X.calm = true) (hi : PI X tg iter wi) (hg : PG X tg g) (hb : PSs X body tb)
    (hs : ∀ x, foldedSetIterable iter X.env x = pure x := by intro _; rfl) : PS X (.For tg iter body [] pos) (tFor wi g tb) := by
  intro pins s σ H D I h
  refine wpAny_For (thn (hi pins s σ H _ I h) fun v s1 h1 => thn h1 fun itv s2 h2 => ?_) hs
  obtain ⟨it, fp, tn, J, H2, e, I2, T, st2, f2, W, ⟨m0, w0⟩, turn⟩ := h2
  subst e
  -- what stays true of the iterator's objects through the loop
  have stat : ∀ {H' : Hp}, (∀ b ∈ fp, H' b = none) → ∀ b ∈ fp, FpOk X pins H' b := fun hn b hb => ⟨hn b hb, (f2 b hb).2⟩
  refine codeAny_forLoop_any (fun n s' => ∃ i σ' H', Inv X pins σ' H' s' ∧ tn i s'.heap ∧ (∀ b ∈ fp, H' b = none) ∧ W i n σ' H') ?_ m0 ⟨0, σ, H2, I2, st2, fun b hb => (f2 b hb).1, w0⟩
  rintro n s3 ⟨i, σ3, H3, I3, st3, fr3, w3⟩
  rcases turn i n σ3 H3 w3 with ⟨stop, qn⟩ | ⟨go, N, hN, step⟩
  · refine wpAny_passesOwn hp (thn (T.done X rfl rfl rfl hc i pins s3 σ3 H3 X.xe I3 (stat fr3) st3 stop) fun r s4 ⟨hr, I4⟩ => ?_)
    subst hr
    exact wpAny_execs_nil ⟨σ3, H3, I4, qn⟩
  · refine wpAny_passesOwn hp (thn (T.item X rfl rfl rfl hc i pins s3 σ3 H3 X.xe I3 (stat fr3) st3 go) fun r s4 ⟨u, hr, h4⟩ => ?_)
    subst hr
    refine wpAny_passesOwn hp (thn h4 fun _ s5 ⟨x, H5, I5, r5, y5, st5, fr5⟩ => ?_)
    have I5' := I5.pinned (stat fr5) (T.obj _ _ st5)
    refine wpAny_passesOwn hp (thn (hg _ s5 σ3 H5 x u _ I5' r5 (step x H5 y5)) fun _ s6 ⟨σ6, H6, I6, q6⟩ => ?_)
    refine wpAny_passesOwn hp (thn (hb _ s6 σ6 H6 _ I6 q6) fun f s7 q7 => ?_)
    have again : ∀ {σ7 : St} {H7 : Hp}, Inv X (pins ++ pinsAt fp s5.heap) σ7 H7 s7 → N σ7 H7 → ∃ m, m < n ∧ ∃ i σ' H', Inv X pins σ' H' s7 ∧ tn i s7.heap ∧ (∀ b ∈ fp, H' b = none) ∧ W i m σ' H' := fun {σ7 H7} I7 n7 => by
      obtain ⟨m', hm, w7⟩ := hN σ7 H7 n7
      refine ⟨m', hm, i + 1, σ7, H7, I7.unpinned, T.keep _ _ _ st5 fun b hb o e => (I7.pin (b, o) (List.mem_append_right _ (List.mem_append_right _ (mem_pinsAt hb e)))).1, fun b hb => ?_, w7⟩
      obtain ⟨o, e, d⟩ := T.obj _ _ st5 b hb
      exact (I7.pin (b, o) (List.mem_append_right _ (List.mem_append_right _ (mem_pinsAt hb e)))).2.1
    cases f with
    | next => obtain ⟨σ7, H7, I7, n7⟩ := q7; exact again I7 n7
    | cont => obtain ⟨σ7, H7, I7, n7⟩ := q7; exact again I7 n7
    | brk => obtain ⟨σ7, H7, I7, q7⟩ := q7; exact ⟨σ7, H7, I7.unpinned, q7⟩
    | ret v => obtain ⟨x7, σ7, H7, I7, r7, q7⟩ := q7; exact ⟨x7, σ7, H7, I7.unpinned, r7, q7⟩
end

theorem for_list {K : PySem.W.Frag} {a : Addr} {xs : List V} {g : TG} {tb : TS} {D : Ends} {σ : St} {H : Hp} (Pv : Nat → St → Hp → Prop) (h0 : Pv 0 σ H) (hl : ∀ i σ H, i ≤ xs.length → Pv i σ H → SqL K H a xs)
    (hs : ∀ i x σ H, xs[i]? = some x → Pv i σ H → g x σ H fun σ2 H2 => tb { D with nx := Pv (i + 1), ct := Pv (i + 1), bk := D.nx } σ2 H2) (hd : ∀ σ H, Pv xs.length σ H → D.nx σ H) :
    ∃ W : Nat → Nat → St → Hp → Prop, (∃ m, W 0 m σ H) ∧ ∀ i m σ H, W i m σ H →
      ((Itl K a).stop i H ∧ D.nx σ H) ∨ ((Itl K a).go i H ∧ ∃ N : St → Hp → Prop, (∀ σ' H', N σ' H' → ∃ m', m' < m ∧ W (i + 1) m' σ' H') ∧ ∀ x H', (Itl K a).yld i H x H' → g x σ H' fun σ2 H2 => tb { D with nx := N, ct := N, bk := D.nx } σ2 H2) := by
  refine ⟨fun i m σ H => m = xs.length - i ∧ i ≤ xs.length ∧ Pv i σ H, ⟨xs.length, by simp, Nat.zero_le _, h0⟩, ?_⟩
  rintro i m σ H ⟨rfl, hi, p⟩
  have q := hl i σ H hi p
  by_cases hlt : i < xs.length
  · refine .inr ⟨⟨xs, xs[i], q, by simp [hlt]⟩, Pv (i + 1), fun σ' H' p' => ⟨xs.length - (i + 1), by omega, rfl, hlt, p'⟩, fun x H' y => ?_⟩
    obtain ⟨e, y⟩ := y
    subst e
    exact hs i x σ _ (y xs q) p
  · have e : i = xs.length := by omega
    subst e
    exact .inl ⟨⟨xs, q, Nat.le_refl _⟩, hd σ H p⟩
end L2

namespace L2
open PySem PySem.Spec PyProof.Rows

abbrev R2 := V → V → Hp → VK → Prop
def OpR (X : Cx) (f : Value → Value → Sem Value) (r : R2) : Prop :=
  ∀ (pins : List (Addr × Obj)) (s : Shared) (σ : St) (H : Hp) (x y : V) (v u : Value) (Q : VK), Inv X pins σ H s → RelV x v → RelV y u → r x y H Q →
    wpAny (model X.prog X.w) X.A (f v u) (EP X pins σ Q) X.xe s
def UnR (X : Cx) (f : Value → Sem Value) (r : V → Hp → VK → Prop) : Prop :=
  ∀ (pins : List (Addr × Obj)) (s : Shared) (σ : St) (H : Hp) (x : V) (v : Value) (Q : VK), Inv X pins σ H s → RelV x v → r x H Q →
    wpAny (model X.prog X.w) X.A (f v) (EP X pins σ Q) X.xe s
def CallR (X : Cx) (f : Value) (r : List V → Hp → VK → Prop) : Prop :=
  ∀ (pins : List (Addr × Obj)) (s : Shared) (σ : St) (H : Hp) (xs : List V) (us : List Value) (Q : VK), Inv X pins σ H s → Vals xs us → r xs H Q →
    wpAny (model X.prog X.w) X.A (call f us) (EP X pins σ Q) X.xe s
def TruR (X : Cx) (r : V → Hp → (Bool → Hp → Prop) → Prop) : Prop :=
  ∀ (pins : List (Addr × Obj)) (s : Shared) (σ : St) (H : Hp) (x : V) (v : Value) (Q : Bool → Hp → Prop), Inv X pins σ H s → RelV x v → r x H Q →
    wpAny (model X.prog X.w) X.A (truthy v) (TP X pins σ Q) X.xe s

def tOp (r : R2) (ta tb : TE) : TE := fun σ H Q => ta σ H fun x H1 => tb σ H1 fun y H2 => r x y H2 Q
def tUn (r : V → Hp → VK → Prop) (ta : TE) : TE := fun σ H Q => ta σ H fun x H1 => r x H1 Q
def rI (C : Int → Int → Prop) (g : Int → Int → V) : R2 := fun x y H Q => ∃ i j, x = .int i ∧ y = .int j ∧ C i j ∧ Q (g i j) H
def rI0 (g : Int → Int → V) : R2 := fun x y H Q => ∃ i j, x = .int i ∧ y = .int j ∧ Q (g i j) H
def rU (g : Int → V) : V → Hp → VK → Prop := fun x H Q => ∃ i, x = .int i ∧ Q (g i) H

section
variable {X : Cx} {a b c : Expr} {ta tb tc : TE} {pos : Pos}

theorem binT (ha : PE X a ta) (hb : PE X b tb) {pins : List (Addr × Obj)} {s : Shared} {σ : St} {H : Hp} {R : V → V → Hp → Prop} (I : Inv X pins σ H s)
    (h : ta σ H fun x H1 => tb σ H1 fun y H2 => R x y H2) {Q : Value → Shared → Prop} {f : Value → Value → Sem Value}
    (hf : ∀ v u s2 x y H2, Inv X pins σ H2 s2 → RelV x v → RelV y u → R x y H2 → wpAny (model X.prog X.w) X.A (f v u) Q X.xe s2) :
    wpAny (model X.prog X.w) X.A (eval a X.env) (fun v s₁ => wpAny (model X.prog X.w) X.A (eval b X.env) (fun u s₂ => wpAny (model X.prog X.w) X.A (f v u) Q X.xe s₂) X.xe s₁) X.xe s := by
  refine thn (ha pins s σ H _ I h) fun v s1 ⟨x, H1, I1, r1, q1⟩ => ?_
  refine thn (hb pins s1 σ H1 _ I1 q1) fun u s2 ⟨y, H2, I2, r2, q2⟩ => ?_
  exact hf v u s2 x y H2 I2 r1 r2 q2

theorem pe_op {op : Operator} {r : R2} (ho : OpR X (binaryOp op) r) (ha : PE X a ta) (hb : PE X b tb) : PE X (.BinOp a op b pos) (tOp r ta tb) := by
  intro pins s σ H Q I h
  exact wpAny_BinOp (binT ha hb I h fun v u s2 x y H2 I2 rx ry q => ho pins s2 σ H2 x y v u Q I2 rx ry q)
theorem pe_un {op : UnaryOp} {r : V → Hp → VK → Prop} (ho : UnR X (unaryOp op) r) (ha : PE X a ta) : PE X (.UnaryOp op a pos) (tUn r ta) := by
  intro pins s σ H Q I h
  exact UnaryOp_ (thn (ha pins s σ H _ I h) fun v s1 ⟨x, H1, I1, r1, q1⟩ => ho pins s1 σ H1 x v Q I1 r1 q1)
theorem opI {f : Value → Value → Sem Value} {C : Int → Int → Prop} {g : Int → Int → Int}
    (rule : ∀ (i j : Int) (t u : Tok) (s : Shared) (Q : Value → Shared → Prop) (E : Value → Shared → Prop), C i j → Q (.int (g i j) s.toks) { s with toks := s.toks + 1 } → wpAny (model X.prog X.w) X.A (f (.int i t) (.int j u)) Q E s) :
    OpR X f (rI C fun i j => .int (g i j)) := by
  intro pins s σ H x y v u Q I rx ry h
  obtain ⟨i, j, rfl, rfl, hc, q⟩ := h
  obtain ⟨t, rfl⟩ := rx
  obtain ⟨t', rfl⟩ := ry
  exact rule i j t t' s _ _ hc ⟨.int (g i j), H, I.tok _, ⟨_, rfl⟩, q⟩
theorem opI0 {f : Value → Value → Sem Value} {g : Int → Int → Int}
    (rule : ∀ (i j : Int) (t u : Tok) (s : Shared) (Q : Value → Shared → Prop) (E : Value → Shared → Prop), Q (.int (g i j) s.toks) { s with toks := s.toks + 1 } → wpAny (model X.prog X.w) X.A (f (.int i t) (.int j u)) Q E s) :
    OpR X f (rI0 fun i j => .int (g i j)) := by
  intro pins s σ H x y v u Q I rx ry h
  obtain ⟨i, j, rfl, rfl, q⟩ := h
  obtain ⟨t, rfl⟩ := rx
  obtain ⟨t', rfl⟩ := ry
  exact rule i j t t' s _ _ ⟨.int (g i j), H, I.tok _, ⟨_, rfl⟩, q⟩
theorem opB0 {f : Value → Value → Sem Value} {g : Int → Int → Bool}
    (rule : ∀ (i j : Int) (t u : Tok) (s : Shared) (Q : Value → Shared → Prop) (E : Value → Shared → Prop), Q (.bool (g i j)) s → wpAny (model X.prog X.w) X.A (f (.int i t) (.int j u)) Q E s) :
    OpR X f (rI0 fun i j => .bl (g i j)) := by
  intro pins s σ H x y v u Q I rx ry h
  obtain ⟨i, j, rfl, rfl, q⟩ := h
  obtain ⟨t, rfl⟩ := rx
  obtain ⟨t', rfl⟩ := ry
  exact rule i j t t' s _ _ ⟨.bl (g i j), H, I, rfl, q⟩

def CDiv (i j : Int) : Prop := 0 < j ∧ j < 1073741824
def CDivN (i j : Int) : Prop := j ≠ 0 ∧ j.natAbs < 1073741824
def CPow (i j : Int) : Prop := 0 ≤ j ∧ j ≤ 1000000 ∧ i.natAbs < 2 ^ 64
def CMul (i j : Int) : Prop := (-(2 ^ 64) < i ∧ i < 2 ^ 64) ∨ (-(2 ^ 64) < j ∧ j < 2 ^ 64)
theorem op_add : OpR X (binaryOp .Add) (rI0 fun i j => .int (i + j)) := opI0 fun _ _ _ _ _ _ _ q => add_int q
theorem op_sub : OpR X (binaryOp .Sub) (rI0 fun i j => .int (i - j)) := opI0 fun _ _ _ _ _ _ _ q => sub_int q
theorem op_mod : OpR X (binaryOp .Mod) (rI (fun _ j => 0 < j) fun i j => .int (i % j)) := opI fun i j _ _ _ _ _ hc q => by
  have h1 : (0 : Int) < j := hc
  exact mod_int' (by omega) (by rw [Int.fmod_eq_emod_of_nonneg i (by omega)]; exact q)
theorem unI {f : Value → Sem Value} {g : Int → Int}
    (rule : ∀ (i : Int) (t : Tok) (s : Shared) (Q : Value → Shared → Prop) (E : Value → Shared → Prop), Q (.int (g i) s.toks) { s with toks := s.toks + 1 } → wpAny (model X.prog X.w) X.A (f (.int i t)) Q E s) :
    UnR X f (rU fun i => .int (g i)) := by
  intro pins s σ H x v Q I rx h
  obtain ⟨i, rfl, q⟩ := h
  obtain ⟨t, rfl⟩ := rx
  exact rule i t s _ _ ⟨.int (g i), H, I.tok _, ⟨_, rfl⟩, q⟩
theorem un_neg : UnR X (unaryOp .USub) (rU fun i => .int (-i)) := unI fun _ _ _ _ _ q => neg_int q
end

def scal : V → V → Bool
  | .non, .non => true | .non, .int _ => true | .int _, .non => true | .non, .bl _ => true | .bl _, .non => true | .non, .str _ => true | .str _, .non => true
  | .int _, .int _ => true | .bl _, .bl _ => true | .str _, .str _ => true | .byt _, .byt _ => true
  | .int _, .str _ => true | .str _, .int _ => true | .bl _, .str _ => true | .str _, .bl _ => true
  | _, _ => false
def rEq : R2 := fun x y H Q => scal x y = true ∧ Q (.bl (decide (x = y))) H
def rNe : R2 := fun x y H Q => scal x y = true ∧ Q (.bl (!decide (x = y))) H

theorem dec_int {i j : Int} : decide (V.int i = V.int j) = (i == j) := by
  rw [Bool.eq_iff_iff]
  simp
theorem dec_bl {i j : Bool} : decide (V.bl i = V.bl j) = (i == j) := by
  rw [Bool.eq_iff_iff]
  simp
theorem dec_str {i j : Str} : decide (V.str i = V.str j) = (i == j) := by
  rw [Bool.eq_iff_iff]
  simp
theorem dec_byt {i j : Array UInt8} : decide (V.byt i = V.byt j) = (i.toList == j.toList) := by
  rw [Bool.eq_iff_iff]
  cases i
  cases j
  simp

section
variable {X : Cx} {a b c : Expr} {ta tb tc : TE} {pos : Pos}
theorem fin_bl {pins : List (Addr × Obj)} {σ : St} {H : Hp} {s : Shared} {Q : VK} {k k' : Bool} (I : Inv X pins σ H s) (q : Q (.bl k) H) (e : k = k') : EP X pins σ Q (.bool k') s := by
  subst e
  exact ⟨.bl k, H, I, rfl, q⟩
theorem op_eq : OpR X (compareOp .Eq) rEq := by
  intro pins s σ H x y v u Q I rx ry h
  obtain ⟨hs, q⟩ := h
  cases x with
  | non =>
    cases rx
    cases y with
    | non => cases ry; exact PySem.EqNone.eq_none_none (fin_bl I q (by simp))
    | bl j => cases ry; exact PySem.EqNone.eq_none_bool (fin_bl I q (by simp))
    | int j => obtain ⟨t', rfl⟩ := ry; exact PySem.EqNone.eq_none_int (fin_bl I q (by simp))
    | str j => obtain ⟨t', rfl⟩ := ry; exact PySem.EqNone.eq_none_str (fin_bl I q (by simp))
    | _ => exact absurd (show false = true from hs) Bool.false_ne_true
  | bl i =>
    cases rx
    cases y with
    | non => cases ry; exact PySem.EqNone.eq_bool_none (fin_bl I q (by simp))
    | bl j => cases ry; exact eq_bool (fin_bl I q dec_bl)
    | str j => obtain ⟨t', rfl⟩ := ry; exact PySem.EqMixed.eq_bool_str (fin_bl I q (by simp))
    | _ => exact absurd (show false = true from hs) Bool.false_ne_true
  | int i =>
    obtain ⟨t, rfl⟩ := rx
    cases y with
    | non => cases ry; exact PySem.EqNone.eq_int_none (fin_bl I q (by simp))
    | int j => obtain ⟨t', rfl⟩ := ry; exact eq_int (fin_bl I q dec_int)
    | str j => obtain ⟨t', rfl⟩ := ry; exact PySem.EqMixed.eq_int_str (fin_bl I q (by simp))
    | _ => exact absurd (show false = true from hs) Bool.false_ne_true
  | str i =>
    obtain ⟨t, rfl⟩ := rx
    cases y with
    | non => cases ry; exact PySem.EqNone.eq_str_none (fin_bl I q (by simp))
    | bl j => cases ry; exact PySem.EqMixed.eq_str_bool (fin_bl I q (by simp))
    | int j => obtain ⟨t', rfl⟩ := ry; exact PySem.EqMixed.eq_str_int (fin_bl I q (by simp))
    | str j => obtain ⟨t', rfl⟩ := ry; exact eq_str (fin_bl I q dec_str)
    | _ => exact absurd (show false = true from hs) Bool.false_ne_true
  | byt i =>
    obtain ⟨t, rfl⟩ := rx
    cases y with
    | byt j => obtain ⟨t', rfl⟩ := ry; exact PySem.W.eq_bytes (fin_bl I q dec_byt)
    | _ => exact absurd (show false = true from hs) Bool.false_ne_true
  | _ => cases y <;> exact absurd (show false = true from hs) Bool.false_ne_true
theorem op_ne : OpR X (compareOp .NotEq) rNe := by
  intro pins s σ H x y v u Q I rx ry h
  obtain ⟨hs, q⟩ := h
  cases x with
  | non =>
    cases rx
    cases y with
    | non => cases ry; exact PySem.EqNone.ne_none_none (fin_bl I q (by simp))
    | bl j => cases ry; exact PySem.EqNone.ne_none_bool (fin_bl I q (by simp))
    | int j => obtain ⟨t', rfl⟩ := ry; exact PySem.EqNone.ne_none_int (fin_bl I q (by simp))
    | str j => obtain ⟨t', rfl⟩ := ry; exact PySem.EqNone.ne_none_str (fin_bl I q (by simp))
    | _ => exact absurd (show false = true from hs) Bool.false_ne_true
  | bl i =>
    cases rx
    cases y with
    | non => cases ry; exact PySem.EqNone.ne_bool_none (fin_bl I q (by simp))
    | bl j => cases ry; exact ne_bool (fin_bl I q (congrArg not dec_bl))
    | str j => obtain ⟨t', rfl⟩ := ry; exact PySem.EqMixed.ne_bool_str (fin_bl I q (by simp))
    | _ => exact absurd (show false = true from hs) Bool.false_ne_true
  | int i =>
    obtain ⟨t, rfl⟩ := rx
    cases y with
    | non => cases ry; exact PySem.EqNone.ne_int_none (fin_bl I q (by simp))
    | int j => obtain ⟨t', rfl⟩ := ry; exact ne_int (fin_bl I q (congrArg not dec_int))
    | str j => obtain ⟨t', rfl⟩ := ry; exact PySem.EqMixed.ne_int_str (fin_bl I q (by simp))
    | _ => exact absurd (show false = true from hs) Bool.false_ne_true
  | str i =>
    obtain ⟨t, rfl⟩ := rx
    cases y with
    | non => cases ry; exact PySem.EqNone.ne_str_none (fin_bl I q (by simp))
    | bl j => cases ry; exact PySem.EqMixed.ne_str_bool (fin_bl I q (by simp))
    | int j => obtain ⟨t', rfl⟩ := ry; exact PySem.EqMixed.ne_str_int (fin_bl I q (by simp))
    | str j => obtain ⟨t', rfl⟩ := ry; exact ne_str (fin_bl I q (congrArg not dec_str))
    | _ => exact absurd (show false = true from hs) Bool.false_ne_true
  | byt i =>
    obtain ⟨t, rfl⟩ := rx
    cases y with
    | byt j => obtain ⟨t', rfl⟩ := ry; exact PySem.W.ne_bytes (fin_bl I q (congrArg not dec_byt))
    | _ => exact absurd (show false = true from hs) Bool.false_ne_true
  | _ => cases y <;> exact absurd (show false = true from hs) Bool.false_ne_true

theorem op_lt : OpR X (compareOp .Lt) (rI0 fun i j => .bl (decide (i < j))) := opB0 fun _ _ _ _ _ _ _ q => lt_int q
theorem op_gt : OpR X (compareOp .Gt) (rI0 fun i j => .bl (decide (j < i))) := opB0 fun _ _ _ _ _ _ _ q => gt_int q
theorem op_ge : OpR X (compareOp .GtE) (rI0 fun i j => .bl (decide (j ≤ i))) := opB0 fun _ _ _ _ _ _ _ q => ge_int q
theorem op_notN : OpR X (compareOp .IsNot) (fun x y H Q => y = .non ∧ Q (.bl (!decide (x = .non))) H) := by
  intro pins s σ H x y v u Q I rx ry h
  obtain ⟨rfl, q⟩ := h
  cases ry
  refine isnot_none_gen (fin_bl I q ?_)
  cases x <;> first
    | (cases rx; rfl)
    | (obtain ⟨t, rfl⟩ := rx; rfl)

def isObj : HO → Bool
  | .lst _ => true
  | .ins _ _ _ => true
  | _ => false
theorem nomark (b : Expr) {op : CmpOp} (h : op ≠ .In := by decide) (h2 : op ≠ .NotIn := by decide) : behindInMarks op b = false := by
  have e1 : (op == CmpOp.In) = false := by cases op <;> first | rfl | exact absurd rfl h
  have e2 : (op == CmpOp.NotIn) = false := by cases op <;> first | rfl | exact absurd rfl h2
  cases b <;> simp [behindInMarks, e1, e2]
theorem pe_cmpR {op : CmpOp} {r : R2} (ho : OpR X (compareOp op) r) (ha : PE X a ta) (hb : PE X b tb) (hm : behindInMarks op b = false) : PE X (.Compare a [op] [b] pos) (tOp r ta tb) := by
  intro pins s σ H Q I h
  exact wpAny_Compare1 (binT ha hb I h fun v u s2 x y H2 I2 rx ry q => ho pins s2 σ H2 x y v u Q I2 rx ry q) hm
def tTest (t : TE) : TT := fun σ H Q => t σ H fun x H' => ∃ k, x = .bl k ∧ Q k H'
theorem pt_cmpR {op : CmpOp} {r : R2} (ho : OpR X (compareOp op) r) (ha : PE X a ta) (hb : PE X b tb) (hm : behindInMarks op b = false) : PT X (.Compare a [op] [b] pos) (tTest (tOp r ta tb)) := by
  intro pins s σ H Q I h
  refine wpAny_isTrue_Compare1 (thn (ha pins s σ H _ I h) fun v s1 ⟨x, H1, I1, r1, q1⟩ => thn (hb pins s1 σ H1 _ I1 q1) fun u s2 ⟨y, H2, I2, r2, q2⟩ =>
    thn (ho pins s2 σ H2 x y v u _ I2 r1 r2 q2) fun c s3 ⟨z, H3, I3, r3, k, e, q3⟩ => ?_) hm
  subst e
  cases r3
  exact wpAny_truthy_bool ⟨H3, I3, q3⟩
def tChain (r r' : R2) (ta tb tc : TE) : TE := fun σ H Q => ta σ H fun x H1 => tb σ H1 fun y H2 => r x y H2 fun z H3 => ∃ k, z = .bl k ∧
  (if k = true then tc σ H3 fun w' H4 => r' y w' H4 Q else Q (.bl false) H3)
def TruV (K : PySem.W.Frag) (x : V) (H : Hp) (k : Bool) : Prop :=
  match x with
  | .non => k = false
  | .bl b => k = b
  | .int i => k = (i != 0)
  | .str y => y.length ≤ sizeLine ∧ k = ((y.length : Int) != 0)
  | .byt y => y.size ≤ sizeLine ∧ k = ((y.size : Int) != 0)
  | .ref p => (∃ xs, SqL K H p xs ∧ k = !xs.isEmpty) ∨ (∃ xs, SqT K H p xs ∧ k = !xs.isEmpty) ∨ ∃ kvs, H p = some (.dK kvs) ∧ k = !kvs.isEmpty
  | _ => False
theorem isEmpty_kv {κ : Type} {kvs : List (κ × V)} {vs : List (κ × Value)} (r : KV kvs vs) : (!vs.isEmpty) = !kvs.isEmpty := by
  cases r <;> rfl
theorem isEmpty_of {xs : List V} {its : List Value} (r : Vals xs its) : (!its.toArray.isEmpty) = !xs.isEmpty := by
  cases r <;> simp
theorem line63 : (sizeLine : Nat) < 2 ^ 63 := by rw [sizeLine_eq]; decide
theorem tru_ok : TruR X (fun x H Q => ∃ k, TruV X.K x H k ∧ Q k H) := by
  intro pins s σ H x v Q I rx h
  obtain ⟨k, e, q⟩ := h
  have hl := line63
  have hs : sizeLine = 16777216 := sizeLine_eq
  cases x with
  | non =>
    cases rx
    have e' : k = false := e
    subst e'
    exact truthy_none ⟨H, I, q⟩
  | bl b =>
    cases rx
    have e' : k = b := e
    subst e'
    exact wpAny_truthy_bool ⟨H, I, q⟩
  | int i =>
    obtain ⟨t, rfl⟩ := rx
    have e' : k = (i != 0) := e
    subst e'
    exact PySem.P.truthy_int ⟨H, I, q⟩
  | str y =>
    obtain ⟨t, rfl⟩ := rx
    obtain ⟨hy, e'⟩ : y.length ≤ sizeLine ∧ k = ((y.length : Int) != 0) := e
    subst e'
    exact PySem.P.truthy_str (by omega) ⟨H, I.tok _, q⟩
  | byt y =>
    obtain ⟨t, rfl⟩ := rx
    obtain ⟨hy, e'⟩ : y.size ≤ sizeLine ∧ k = ((y.size : Int) != 0) := e
    subst e'
    exact PySem.W.truthy_bytes (by omega) ⟨H, I.tok _, q⟩
  | ref p =>
    cases rx
    have e' : (∃ xs, SqL X.K H p xs ∧ k = !xs.isEmpty) ∨ (∃ xs, SqT X.K H p xs ∧ k = !xs.isEmpty) ∨ ∃ kvs, H p = some (.dK kvs) ∧ k = !kvs.isEmpty := e
    rcases e' with ⟨xs, hx, e'⟩ | ⟨xs, hx, e'⟩ | ⟨kvs, hx, e'⟩
    · subst e'
      obtain ⟨its, r, pl, hz⟩ := I.list hx
      have hlen := r.length
      exact wpAny_truthy_list pl.isList (by simp only [List.size_toArray]; omega) ⟨H, I.tok _, by rw [isEmpty_of r]; exact q⟩
    · subst e'
      obtain ⟨its, r, pl, hz⟩ := I.tuple hx
      have hlen := r.length
      exact truthy_tuple pl (by simp only [List.size_toArray]; omega) ⟨H, I.tok _, by rw [isEmpty_of r]; exact q⟩
    · subst e'
      obtain ⟨hz, hS, vs, r, m⟩ : kvs.length ≤ sizeLine ∧ (p == sysModules) = false ∧ ∃ vs, KV kvs vs ∧ s.heap.DictOf (mixKind X.prog X.w) p vs := I.hok p _ hx
      have hlen : kvs.length = vs.length := Paired.length r
      exact wpAny_truthy_dict hS m (by omega) ⟨H, I.tok _, by rw [isEmpty_kv r]; exact q⟩
  | _ => exact (show False from e).elim
theorem pt_truth (ha : PE X a ta) (he : ∀ whole, isTrue a X.env whole = (do let v ← whole; standAt a.pos; holding [v] (truthy v))) :
    PT X a (fun σ H Q => ta σ H fun x H' => ∃ k, TruV X.K x H' k ∧ Q k H') := by
  intro pins s σ H Q I h
  exact isTrue_plain (thn (ha pins s σ H _ I h) fun v s1 ⟨x, H1, I1, r1, q1⟩ => tru_ok pins s1 σ H1 x v Q I1 r1 q1) (he _)

theorem op_add_str : OpR X (binaryOp .Add) (fun x y H Q => ∃ i j, x = .str i ∧ y = .str j ∧ i.length + j.length ≤ sizeLine ∧ Q (.str (i ++ j)) H) := by
  intro pins s σ H x y v u Q I rx ry h
  obtain ⟨i, j, rfl, rfl, hz, q⟩ := h
  obtain ⟨t, rfl⟩ := rx
  obtain ⟨t', rfl⟩ := ry
  exact add_str (fun t' tk => ⟨.str (i ++ j), H, I.tok _, ⟨_, rfl⟩, q⟩) hz
def PlainIxT (b : Expr) : Prop := ∀ o i, subscripted b false o i = operate [o, i] (getItem o i)
theorem vals1 {x : V} {us : List Value} (r : Vals [x] us) : ∃ u, us = [u] ∧ RelV x u := by
  cases r with
  | cons r1 r2 => cases r2; exact ⟨_, rfl, r1⟩
theorem vals2 {x y : V} {us : List Value} (r : Vals [x, y] us) : ∃ u w', us = [u, w'] ∧ RelV x u ∧ RelV y w' := by
  cases r with
  | cons r1 r2 =>
    cases r2 with
    | cons r3 r4 => cases r4; exact ⟨_, _, rfl, r1, r3⟩
def LenV (K : PySem.W.Frag) (x : V) (H : Hp) (n : Nat) : Prop :=
  match x with
  | .str y => y.length ≤ sizeLine ∧ n = y.length
  | .byt y => y.size ≤ sizeLine ∧ n = y.size
  | .ref p => (∃ xs, SqL K H p xs ∧ n = xs.length) ∨ ∃ xs, SqT K H p xs ∧ n = xs.length
  | _ => False
end
end L2

namespace L2
open PySem PySem.Spec PyProof.Rows

structure ObjM (h : Heap) (x dx C : Addr) (mA : Str → Option Value) : Prop where
  obj : h.get? x = some (PySem.W.instObj C dx)
  ns : h.Ns1 dx mA
  ne : dx ≠ x

theorem lookIn_ns {h : Heap} {dx : Addr} {mA : Str → Option Value} (n : h.Ns1 dx mA) : ∃ od, h.get? dx = some od ∧ ∀ name, PySem.W.lookIn name od = some (mA name) := by
  obtain ⟨o, es, ep, ho, hd, hk, _, hm⟩ := n
  refine ⟨o, ho, fun name => ?_⟩
  have e := hm name
  unfold nsFind findBy at e
  rw [← Array.find?_toList] at e
  unfold PySem.W.lookIn
  rw [hd]
  dsimp only
  split
  · rename_i y q
    rw [q] at e
    exact congrArg some e
  · rename_i q
    rw [q] at e
    have a : es.toList.any (·.refKey) = false := by
      rw [List.any_eq_false]
      intro y hy
      obtain ⟨z, t, hkey⟩ := hk y (Array.mem_toList_iff.mp hy)
      simp [DictEntry.refKey, hkey]
    have a' : ¬ es.toList.any (·.refKey) = true := by rw [a]; exact Bool.false_ne_true
    rw [if_neg a']
    exact congrArg some e

theorem ObjM.look {h : Heap} {x dx C : Addr} {mA : Str → Option Value} (I : ObjM h x dx C mA) : ∃ od, PySem.W.InstAt h x (PySem.W.instObj C dx) C (some od) ∧ ∀ name, PySem.W.lookIn name od = some (mA name) :=
  let ⟨od, ho, hl⟩ := lookIn_ns I.ns
  ⟨od, ⟨I.obj, rfl, rfl, ho⟩, hl⟩

section
variable {prog : Program} {w : World} {A : Around} {E : Value → Shared → Prop} {s : Shared} {K : PySem.W.Frag} {x dx C f : Addr} {mA : Str → Option Value} {name : Str} {v : Value}

theorem get_map {expr : Bool} {Q : Value → Shared → Prop} (X : K.In s.heap) (I : ObjM s.heap x dx C mA) (hg : PySem.W.plainGet K C name = true) (hh : PySem.W.hasDictIn K C = true)
    (ha : PySem.W.findIn K (.ref C) name = some none) (hv : mA name = some v) (hv' : PySem.W.handedIn v = true) (h : Q v { s with toks := s.toks + 1 }) :
    wpAny (model prog w) A (getAttr (.ref x) name expr) Q E s := by
  obtain ⟨od, J, hl⟩ := I.look
  exact PySem.W.get_value X J (PySem.W.plainGet_of hg).1 (PySem.W.findObj_own hh ha rfl (by rw [hl, hv])) hv' h

theorem get_meth {pl : Sem Bool} {Q : Value × List Value → Shared → Prop} (X : K.In s.heap) (I : ObjM s.heap x dx C mA) (hg : PySem.W.plainGet K C name = true)
    (hf : PySem.W.findIn K (.ref C) name = some (some (.ref f))) (ht : PySem.W.isFn K (.ref f) = true) (hv : mA name = none) (h : Q (.ref f, [.ref x]) s) :
    wpAny (model prog w) A (getMethod (.ref x) name pl) Q E s := by
  obtain ⟨od, J, hl⟩ := I.look
  exact PySem.W.method_fn X J (PySem.W.plainGet_of hg).1 (PySem.W.plainGet_of hg).2 hf (beq_iff_eq.mp ht) (by show (PySem.W.lookIn name od).map (·.isSome) = some false; rw [hl, hv]; rfl) h

theorem set_map {ns : List Str} {Q : Unit → Shared → Prop} (X : K.In s.heap) (I : ObjM s.heap x dx C mA)
    (hs : PySem.W.findIn K (.ref C) "__setattr__" = some (some (.builtin "object.__setattr__"))) (hp : PySem.W.plainOver K C = true) (ht : PySem.W.takerIn K C name = some none) (hh : PySem.W.hasDictIn K C = true)
    (hw : PySem.Within mA ns) (hsz : ns.length ≤ sizeLine)
    (h : ∀ h', ObjM h' x dx C (fun y => if y = name then some v else mA y) → Heap.SameBut dx s.heap h' → Q () { s with heap := h', toks := s.toks + 2 }) :
    wpAny (model prog w) A (setAttr (.ref x) name v) Q E s := by
  obtain ⟨od, J, hl⟩ := I.look
  refine PySem.W.set_plain X J hs (PySem.W.osa_open (s := { s with toks := s.toks + 1 }) (r := none) X J hp ht fun b => ?_)
  obtain ⟨cd, hc, hd'⟩ := PySem.W.any_some hh
  have hx : s.heap.get? x = some ⟨.ref C, some dx, .plain, #[]⟩ := I.obj
  refine wpAny_bind (wpAny_pure (wpAny_bind (wpAny_bind (wpAny_loadPart hx (wpAny_bind (PySem.W.Looks.here (s := { s with toks := s.toks + 1 }) (PySem.W.looks_clsIn X hc) ?_))))))
  rw [hd']
  refine wpAny_pure (a := some dx) (wpAny_bind (wpAny_pure (wpAny_bind ?_)))
  refine wpAny_nsSet1 (s := { s with toks := s.toks + 1 }) I.ns fun h' hn2 hs2 => ?_
  obtain ⟨oD, esD, epD, hoD, hdD, hcD⟩ := hn2.count (PySem.Within.cons name v hw)
  refine wpAny_bind (wpAny_lookBehind hoD (by rw [hdD]; exact pastItsLine_dict (Nat.le_trans hcD (by rw [List.length_cons]; omega))) ?_)
  exact wpAny_pure (h _ ⟨(hs2.2 _ (Ne.symm I.ne)).trans I.obj, hn2, I.ne⟩ hs2)

theorem make_map {R : Result → Shared → Prop} {vs : List Value} {kw : List (Str × Value)} (X : K.In s.heap) (hm : PySem.W.makesIn K C = true)
    (hi : PySem.W.findIn K (.ref C) "__init__" = some (some (.ref f))) (hf : PySem.W.typeIn K (.ref f) = some (.type "function"))
    (h : codeAny (model prog w) (A.under (.builtin "type.__call__" ⟨.ref C :: vs, kw⟩)) (.call (.ref f) ⟨.ref (s.heap.objs.size + 1) :: vs, kw⟩) (PySem.W.InitBack (s.heap.objs.size + 1) R)
      { s with heap := (s.heap.push PySem.W.emptyDict).push (PySem.W.instObj C s.heap.objs.size) }) :
    codeAny (model prog w) A (.call (.ref C) ⟨vs, kw⟩) R s := by
  obtain ⟨hh, g, d, t, os⟩ := s
  exact PySem.W.make_core (PySem.W.makes_of X hm) (PySem.W.looks_findIn X hi) (fun self => PySem.W.bind_fn X self hf) (.inl rfl) h
end

def putF (f : Str) (v : V) : List (Str × V) → List (Str × V)
  | [] => [(f, v)]
  | (g, x) :: r => if g = f then (g, v) :: r else (g, x) :: putF f v r
theorem lookup_putF (f g : Str) (v : V) : ∀ fs : List (Str × V), (putF f v fs).lookup g = if g = f then some v else fs.lookup g
  | [] => by
    show List.lookup g [(f, v)] = _
    by_cases h : g = f
    · have hb : (g == f) = true := beq_iff_eq.mpr h
      simp only [List.lookup, hb, if_pos h]
    · have hb : (g == f) = false := beq_eq_false_iff_ne.mpr h
      simp only [List.lookup, hb, if_neg h]
  | (k, x) :: r => by
    have ih := lookup_putF f g v r
    rw [show putF f v ((k, x) :: r) = (if k = f then (k, v) :: r else (k, x) :: putF f v r) from rfl]
    by_cases hk : k = f
    · rw [if_pos hk]
      by_cases h : g = k
      · have hb : (g == k) = true := beq_iff_eq.mpr h
        simp only [List.lookup, hb, if_pos (h.trans hk)]
      · have hb : (g == k) = false := beq_eq_false_iff_ne.mpr h
        simp only [List.lookup, hb, if_neg (fun e : g = f => h (e.trans hk.symm))]
    · rw [if_neg hk]
      by_cases h : g = k
      · have hb : (g == k) = true := beq_iff_eq.mpr h
        simp only [List.lookup, hb, if_neg (fun e : g = f => hk (h.symm.trans e))]
      · have hb : (g == k) = false := beq_eq_false_iff_ne.mpr h
        simp only [List.lookup, hb]
        exact ih
theorem keys_putF (f : Str) (v : V) : ∀ fs : List (Str × V), f ∈ (putF f v fs).map (·.1) ∧ ∀ g, g ∈ fs.map (·.1) → g ∈ (putF f v fs).map (·.1)
  | [] => ⟨by simp [putF], fun g h => by simp at h⟩
  | (k, x) :: r => by
    obtain ⟨i1, i2⟩ := keys_putF f v r
    rw [show putF f v ((k, x) :: r) = (if k = f then (k, v) :: r else (k, x) :: putF f v r) from rfl]
    by_cases hk : k = f
    · rw [if_pos hk]
      subst hk
      exact ⟨by simp, fun g h => by simpa using h⟩
    · rw [if_neg hk]
      refine ⟨?_, fun g h => ?_⟩
      · rw [List.map_cons]
        exact List.mem_cons_of_mem _ i1
      · rw [List.map_cons] at h ⊢
        rcases List.mem_cons.mp h with e | e
        · exact List.mem_cons.mpr (.inl e)
        · exact List.mem_cons_of_mem _ (i2 g e)
theorem length_putF (f : Str) (v : V) : ∀ fs : List (Str × V), (putF f v fs).length ≤ fs.length + 1
  | [] => by simp [putF]
  | (k, x) :: r => by
    have ih := length_putF f v r
    rw [show putF f v ((k, x) :: r) = (if k = f then (k, v) :: r else (k, x) :: putF f v r) from rfl]
    by_cases hk : k = f
    · rw [if_pos hk, List.length_cons, List.length_cons]; omega
    · rw [if_neg hk, List.length_cons, List.length_cons]; omega

theorem RelO.some_of {v : V} {o : Option Value} (r : RelO (some v) o) : ∃ u, o = some u ∧ RelV v u := by
  cases o with
  | none => exact (show False from r).elim
  | some u => exact ⟨u, rfl, r⟩
theorem RelO.none_of {o : Option Value} (r : RelO none o) : o = none := by
  cases o with
  | none => rfl
  | some u => exact (show False from r).elim
theorem handed_of {v : V} {u : Value} (r : RelV v u) : PySem.W.handedIn u = true := by
  cases v with
  | non => cases (show u = Value.none from r); rfl
  | bl b => cases (show u = Value.bool b from r); rfl
  | int i => obtain ⟨t, e⟩ := (show ∃ t, u = Value.int i t from r); cases e; rfl
  | str x => obtain ⟨t, e⟩ := (show ∃ t, u = Value.str x t from r); cases e; rfl
  | byt b => obtain ⟨t, e⟩ := (show ∃ t, u = Value.bytes b t from r); cases e; rfl
  | flt b => obtain ⟨t, e⟩ := (show ∃ t, u = Value.float b t from r); cases e; rfl
  | ref a => cases (show u = Value.ref a from r); rfl
  | ty n => cases (show u = Value.type n from r); rfl

section
variable {P : Program} {w : World} {H H' : Hp} {h h' : Heap} {a C dx : Addr} {fs fs' : List (Str × V)}
theorem ins_get (hok : HOk P w H h) (e : H a = some (.ins C dx fs)) : ∃ mA, ObjM h a dx C mA ∧ (∀ f, RelO (fs.lookup f) (mA f)) ∧ PySem.Within mA (fs.map (·.1)) ∧ fs.length ≤ 1000 ∧ H dx = some (.own a) := by
  obtain ⟨d, z, ne, ob, mA, n, r, q⟩ := (show ObjOk P w H h a (.ins C dx fs) from hok a _ e)
  exact ⟨mA, ⟨ob, n, ne⟩, r, q, z, d⟩
end

structure Cls (K : PySem.W.Frag) (C : Addr) : Prop where
  pg : PySem.W.plainGet K C Str.empty = true
  hd : PySem.W.hasDictIn K C = true
  po : PySem.W.plainOver K C = true
  sa : PySem.W.findIn K (.ref C) "__setattr__" = some (some (.builtin "object.__setattr__"))
theorem Cls.get {K : PySem.W.Frag} {C : Addr} (c : Cls K C) (f : Str) : PySem.W.plainGet K C f = true := c.pg
def NoAttr (K : PySem.W.Frag) (C : Addr) (f : Str) : Prop := PySem.W.findIn K (.ref C) f = some none
theorem NoAttr.taker {K : PySem.W.Frag} {C : Addr} {f : Str} (n : NoAttr K C f) : PySem.W.takerIn K C f = some none := by
  unfold PySem.W.takerIn
  rw [show PySem.W.findIn K (.ref C) f = some none from n]
  rfl
structure Con (K : PySem.W.Frag) (C : Addr) (f : Str) (v : V) (u : Value) : Prop where
  at_ : PySem.W.findIn K (.ref C) f = some (some u)
  rel : RelV v u
  get : PySem.W.specialIn K u "__get__" = some none
  cp : PySem.W.copiedNames.contains f = false
structure Meth (K : PySem.W.Frag) (C : Addr) (m : Str) (f : Addr) : Prop where
  at_ : PySem.W.findIn K (.ref C) m = some (some (.ref f))
  fn : PySem.W.isFn K (.ref f) = true
  kp : PySem.W.keepIn K (.ref f) = true

section
variable {X : Cx} {pins : List (Addr × Obj)} {σ : St} {H : Hp} {s : Shared} {a C dx : Addr} {fs : List (Str × V)} {f : Str} {v : V} {A : Around} {E : Value → Shared → Prop}

theorem getattr_ok {b : Bool} {Q : Value → Shared → Prop} (I : Inv X pins σ H s) (e : H a = some (.ins C dx fs)) (c : Cls X.K C) (n : NoAttr X.K C f) (l : fs.lookup f = some v)
    (h : ∀ u s', Inv X pins σ H s' → RelV v u → Q u s') : wpAny (model X.prog X.w) A (getAttr (.ref a) f b) Q E s := by
  obtain ⟨mA, O, r, _, _, _⟩ := ins_get I.hok e
  obtain ⟨u, hu, ru⟩ := RelO.some_of (v := v) (o := mA f) (by rw [← l]; exact r f)
  exact get_map I.kIn O (c.get f) c.hd n hu (handed_of ru) (h u _ (I.tok _) ru)

theorem getmeth_ok {m : Str} {g : Addr} {pl : Sem Bool} {Q : Value × List Value → Shared → Prop} (I : Inv X pins σ H s) (e : H a = some (.ins C dx fs)) (c : Cls X.K C) (k : Meth X.K C m g) (l : fs.lookup m = none)
    (h : Q (.ref g, [.ref a]) s) : wpAny (model X.prog X.w) A (getMethod (.ref a) m pl) Q E s := by
  obtain ⟨mA, O, r, _, _, _⟩ := ins_get I.hok e
  have hn : mA m = none := RelO.none_of (by rw [← l]; exact r m)
  exact get_meth I.kIn O (c.get m) k.at_ k.fn hn h

theorem setattr_ok {y : V} {u : Value} {Q : Unit → Shared → Prop} (I : Inv X pins σ H s) (e : H a = some (.ins C dx fs)) (c : Cls X.K C) (n : NoAttr X.K C f) (hl : fs.length < 1000) (ry : RelV y u)
    (h : ∀ s', Inv X pins σ (upd H a (.ins C dx (putF f y fs))) s' → Q () s') : wpAny (model X.prog X.w) A (setAttr (.ref a) f u) Q E s := by
  obtain ⟨mA, O, r, wi, _, ho⟩ := ins_get I.hok e
  have hz : (fs.map (·.1)).length ≤ sizeLine := by rw [List.length_map, sizeLine_eq]; omega
  refine set_map I.kIn O c.sa c.po n.taker c.hd wi hz fun h' O' sb => h _ ?_
  have hd : ∃ o, h'.get? dx = some o := let ⟨o, _, _, e', _⟩ := O'.ns; ⟨o, e'⟩
  refine I.write (x := a) (e := dx) (by rw [e]; exact True.intro) (.inr ho) (fun b q hb z => (sb.2 b hb).trans z) hd ?_
  refine ⟨by rw [upd_ne O.ne]; exact ho, ?_, O.ne, O'.obj, _, O'.ns, fun g => ?_, fun g hg => ?_⟩
  · have := length_putF f y fs; omega
  · show RelO ((putF f y fs).lookup g) (if g = f then some u else mA g)
    rw [lookup_putF]
    by_cases q : g = f
    · rw [if_pos q, if_pos q]; exact ry
    · rw [if_neg q, if_neg q]; exact r g
  · by_cases q : g = f
    · rw [q]; exact (keys_putF f y fs).1
    · refine (keys_putF f y fs).2 g (wi g fun z => hg ?_)
      show (if g = f then some u else mA g) = none
      rw [if_neg q]; exact z

theorem Inv.made (I : Inv X pins σ H s) : Inv X pins σ (upd (upd H s.heap.objs.size (.own (s.heap.objs.size + 1))) (s.heap.objs.size + 1) (.ins C s.heap.objs.size []))
    { s with heap := (s.heap.push PySem.W.emptyDict).push (PySem.W.instObj C s.heap.objs.size) } := by
  have e1 : (s.heap.push PySem.W.emptyDict).get? s.heap.objs.size = some PySem.W.emptyDict := Heap.get?_push_size s.heap rfl
  have e2 : ((s.heap.push PySem.W.emptyDict).push (PySem.W.instObj C s.heap.objs.size)).get? (s.heap.objs.size + 1) = some (PySem.W.instObj C s.heap.objs.size) := by
    have := Heap.get?_push_size (s.heap.push PySem.W.emptyDict) (o := PySem.W.instObj C s.heap.objs.size) rfl
    rwa [Heap.size_push] at this
  have e3 : (s.heap.push PySem.W.emptyDict).Ns s.heap.objs.size (fun _ => none) := ⟨PySem.W.emptyDict, #[], _, e1, rfl, (fun e he => absurd he (by simp)), fun _ => rfl⟩
  have I1 := I.laid (a := s.heap.objs.size) (o := .own (s.heap.objs.size + 1)) (h' := s.heap.push PySem.W.emptyDict) (t' := s.toks) (fun b u q => Heap.get?_push_of_some _ q) (Nat.le_refl _) ⟨_, e1⟩
  refine I1.laid (a := s.heap.objs.size + 1) (o := .ins C s.heap.objs.size []) (t' := s.toks) (fun b u q => Heap.get?_push_of_some _ q) (Nat.le_of_eq (Heap.size_push _ _)) ?_
  have ne : s.heap.objs.size ≠ s.heap.objs.size + 1 := Nat.ne_of_lt (Nat.lt_succ_self _)
  refine ⟨by rw [upd_ne ne, upd_same], Nat.zero_le _, ne, e2, fun _ => none, (Heap.Ns1.of_empty e3).at fun o q => Heap.get?_push_of_some _ q, fun _ => True.intro, fun y hy => absurd rfl hy⟩

theorem attr_of {prog : Program} {w : World} {env : Env} {e : Expr} {f : Str} {pos : Pos} {s : Shared} {Q : Value → Shared → Prop} (hb : attributeBase e f env (eval e env) = eval e env)
    (h : wpAny (model prog w) A (eval e env) (fun o s₁ => wpAny (model prog w) A (getAttr o f true) Q E s₁) E s) : wpAny (model prog w) A (eval (.Attribute e f pos) env) Q E s :=
  Attribute_any_ h (by rw [arm_eval_Attribute, hb])
end

def tFld (K : PySem.W.Frag) (ta : TE) (f : Str) : TE := fun σ H Q => ta σ H fun x H1 => ∃ a C dx fs v, x = .ref a ∧ H1 a = some (.ins C dx fs) ∧ Cls K C ∧ NoAttr K C f ∧ fs.lookup f = some v ∧ Q v H1
def tCon (K : PySem.W.Frag) (ta : TE) (f : Str) : TE := fun σ H Q => ta σ H fun x H1 => ∃ a C dx fs v u, x = .ref a ∧ H1 a = some (.ins C dx fs) ∧ Cls K C ∧ Con K C f v u ∧ fs.lookup f = none ∧ Q v H1
def sFld (K : PySem.W.Frag) (ta tv : TE) (f : Str) : TS := fun D σ H => tv σ H fun y H1 => ta σ H1 fun x H2 => ∃ a C dx fs, x = .ref a ∧ H2 a = some (.ins C dx fs) ∧ Cls K C ∧ NoAttr K C f ∧ fs.length < 1000 ∧
  D.nx σ (upd H2 a (.ins C dx (putF f y fs)))
def InOp (X : Cx) (op : Operator) (rd : V → V → Hp → VK → Prop) : Prop :=
  ∀ (pins : List (Addr × Obj)) (s : Shared) (σ : St) (H : Hp) (x y : V) (u v : Value) (Q : VK), Inv X pins σ H s → RelV x u → RelV y v → rd x y H Q → wpAny (model X.prog X.w) X.A (inplaceOp op u v) (EP X pins σ Q) X.xe s
def sFldAug (K : PySem.W.Frag) (ta tv : TE) (rd : V → V → Hp → VK → Prop) (f : Str) : TS := fun D σ H => ta σ H fun x H1 => ∃ a C dx fs v, x = .ref a ∧ H1 a = some (.ins C dx fs) ∧ Cls K C ∧ NoAttr K C f ∧ fs.lookup f = some v ∧
  tv σ H1 fun y H2 => rd v y H2 fun z H3 => ∃ dx' fs', H3 a = some (.ins C dx' fs') ∧ fs'.length < 1000 ∧ D.nx σ (upd H3 a (.ins C dx' (putF f z fs')))

section
variable {X : Cx} {o e value : Expr} {f : Str} {pos pos' tpos : Pos} {ta tv : TE}
theorem pe_fld (he : PE X e ta) (hb : attributeBase e f X.env (eval e X.env) = eval e X.env) : PE X (.Attribute e f pos) (tFld X.K ta f) := by
  intro pins s σ H Q I h
  refine attr_of hb (thn (he pins s σ H _ I h) fun u s1 ⟨x, H1, I1, rx, a, C, dx, fs, v, ex, ea, c, n, l, q⟩ => ?_)
  subst ex
  obtain rfl : u = Value.ref a := rx
  exact getattr_ok I1 ea c n l fun u' s2 I2 ru => ⟨v, H1, I2, ru, q⟩
theorem ps_fld (ha : PE X o ta) (hv : PE X value tv) (hs : swapsWith value (some (.Attribute o f pos')) pos.line X.env = pure false) : PS X (.Assign [.Attribute o f pos'] value pos) (sFld X.K ta tv f) := by
  intro pins s σ H D I h
  refine plainObj_wpAny_Assign_Attribute (thn (hv pins s σ H _ I h) fun u s1 ⟨y, H1, I1, ry, q⟩ => thn (ha pins s1 σ H1 _ I1 q) fun ov s2 ⟨x, H2, I2, rx, a, C, dx, fs, ex, ea, c, n, l, q2⟩ => ?_) hs
  subst ex
  obtain rfl : ov = Value.ref a := rx
  exact setattr_ok I2 ea c n l ry fun s3 I3 => ⟨σ, _, I3, q2⟩
def rAdd : V → V → Hp → VK → Prop := fun x y H Q => ∃ i j, x = .int i ∧ y = .int j ∧ Q (.int (i + j)) H
def rSub : V → V → Hp → VK → Prop := fun x y H Q => ∃ i j, x = .int i ∧ y = .int j ∧ Q (.int (i - j)) H
theorem methcall_of {pl : Sem Bool} {m : Str} {apos : Pos} {args : List Expr} {pins : List (Addr × Obj)} {s : Shared} {σ : St} {H : Hp} {Q : Value → Shared → Prop} {te : TE} (he : PE X e te) (I : Inv X pins σ H s)
    (h : te σ H fun x H1 => ∃ a C dx fs g, x = .ref a ∧ H1 a = some (.ins C dx fs) ∧ Cls X.K C ∧ Meth X.K C m g ∧ fs.lookup m = none ∧
      ∀ s1, Inv X pins σ H1 s1 → wpAny (model X.prog X.w) X.A (callWith pos (.ref g) [.ref a] (backTo pos (starEach args X.env)) (backToKw pos (keywordEach [] X.env))) Q X.xe s1)
    (ht : eval (.Call (.Attribute e m apos) args [] pos) X.env = (do
      let ov ← eval e X.env
      standAt apos.atName
      let (f, first) ← holding [ov] (getMethod ov m pl)
      callWith pos f first (backTo pos (starEach args X.env)) (backToKw pos (keywordEach [] X.env)))) :
    wpAny (model X.prog X.w) X.A (eval (.Call (.Attribute e m apos) args [] pos) X.env) Q X.xe s := by
  refine PySem.W.methodCall_KW (pl := pl) (thn (he pins s σ H _ I h) fun u s1 ⟨x, H1, I1, rx, a, C, dx, fs, g, ex, ea, c, k, l, q⟩ => ?_) ht
  subst ex
  obtain rfl : u = Value.ref a := rx
  exact getmeth_ok I1 ea c k l (q s1 I1)
end

section
variable {X : Cx} {pins : List (Addr × Obj)} {σ : St} {H : Hp} {s : Shared} {A : Around} {E : Value → Shared → Prop} {Q : Value → Shared → Prop} {c : Value} {b : Bool}
inductive TyOf (K : PySem.W.Frag) (H : Hp) : V → Value → Prop where
  | non : TyOf K H .non (.type "NoneType")
  | bl (x : Bool) : TyOf K H (.bl x) (.type "bool")
  | int (i : Int) : TyOf K H (.int i) (.type "int")
  | str (x : Str) : TyOf K H (.str x) (.type "str")
  | flt (x : UInt64) : TyOf K H (.flt x) (.type "float")
  | lst {a : Addr} {xs : List V} (e : H a = some (.lst xs)) : TyOf K H (.ref a) (.type "list")
  | frz {a : Addr} {o : Obj} {xs : List V} (e : H a = some (.frz o (.lst xs))) : TyOf K H (.ref a) (.type "list")
  | tup {a : Addr} {xs : List V} (e : H a = some (.tup xs)) : TyOf K H (.ref a) (.type "tuple")
  | dK {a : Addr} {kvs : List (Key × V)} (e : H a = some (.dK kvs)) : TyOf K H (.ref a) (.type "dict")
  | dT {a : Addr} {kvs : List (List Key × V)} (e : H a = some (.dT kvs)) : TyOf K H (.ref a) (.type "dict")
  | ins {a C dx : Addr} {fs : List (Str × V)} (e : H a = some (.ins C dx fs)) (cl : Cls K C) (ha : PySem.W.findIn K (.ref C) "__class__" = some (some (.builtin "object.__class__")))
      (hn : PySem.W.specialIn K (.builtin "object.__class__") "__get__" = some (some (.builtin "getset_descriptor.__get__"))) (htk : PySem.W.takesIn K (.builtin "object.__class__") = some true)
      (hm : PySem.W.mroIn K C (.type "object") = some true) : TyOf K H (.ref a) (.ref C)
theorem isinst_ok {x : V} {u t : Value} (I : Inv X pins σ H s) (rx : RelV x u) (ty : TyOf X.K H x t) (e : PySem.W.kitOne X.K t c = some b) (h : ∀ tk, Q (.bool b) { s with toks := tk }) :
    wpAny (model X.prog X.w) A (call (.builtin "isinstance") [u, c]) Q E s := by
  cases ty with
  | non => cases (show u = Value.none from rx); exact PySem.W.kia_one PySem.W.kitx_none I.kIn True.intro e (fun z => nomatch z) h
  | bl y => cases (show u = Value.bool y from rx); exact PySem.W.kia_one PySem.W.kitx_bool I.kIn True.intro e (fun z => nomatch z) h
  | int i => obtain ⟨t, q⟩ := (show ∃ t, u = Value.int i t from rx); cases q; exact PySem.W.kia_one PySem.W.kitx_int I.kIn True.intro e (fun z => nomatch z) h
  | str y => obtain ⟨t, q⟩ := (show ∃ t, u = Value.str y t from rx); cases q; exact PySem.W.kia_one PySem.W.kitx_str I.kIn True.intro e (fun z => nomatch z) h
  | flt y => obtain ⟨t, q⟩ := (show ∃ t, u = Value.float y t from rx); cases q; exact PySem.W.kia_one PySem.W.kitx_float I.kIn True.intro e (fun z => nomatch z) h
  | @lst a xs ea =>
    cases (show u = Value.ref a from rx)
    obtain ⟨_, _, n, _, h1⟩ := (show ObjOk X.prog X.w H s.heap a (.lst xs) from I.hok a _ ea)
    exact PySem.W.kia_one PySem.W.kitx_list I.kIn ⟨_, h1, rfl⟩ e (fun z => nomatch z) h
  | @frz a ob xs ea =>
    cases (show u = Value.ref a from rx)
    obtain ⟨_, _, _, n, _, h1⟩ := (show ObjOk X.prog X.w H s.heap a (.frz ob (.lst xs)) from I.hok a _ ea)
    exact PySem.W.kia_one PySem.W.kitx_list I.kIn ⟨_, h1, rfl⟩ e (fun z => nomatch z) h
  | @tup a xs ea =>
    cases (show u = Value.ref a from rx)
    obtain ⟨_, _, _, p⟩ := (show ObjOk X.prog X.w H s.heap a (.tup xs) from I.hok a _ ea)
    obtain ⟨o, h1, h2, _⟩ := p
    exact PySem.W.kia_one PySem.W.kitx_tuple I.kIn ⟨o, h1, h2⟩ e (fun z => nomatch z) h
  | @dK a kvs ea =>
    cases (show u = Value.ref a from rx)
    obtain ⟨_, _, vs, _, p⟩ := (show ObjOk X.prog X.w H s.heap a (.dK kvs) from I.hok a _ ea)
    obtain ⟨o, es, ep, h1, h2, _⟩ := p
    exact PySem.W.kia_one PySem.W.kitx_dict I.kIn ⟨o, h1, h2.1⟩ e (fun z => nomatch z) h
  | @dT a kvs ea =>
    cases (show u = Value.ref a from rx)
    obtain ⟨_, _, xs, _, o, es, ep, h1, h2, _⟩ := (show ObjOk X.prog X.w H s.heap a (.dT kvs) from I.hok a _ ea)
    exact PySem.W.kia_one PySem.W.kitx_dict I.kIn ⟨o, h1, h2.1⟩ e (fun z => nomatch z) h
  | @ins a C dx fs ea cl ha hn htk hm =>
    cases (show u = Value.ref a from rx)
    obtain ⟨mA, O, _⟩ := ins_get I.hok ea
    obtain ⟨od, J, _⟩ := O.look
    exact PySem.W.kia_one (PySem.W.kitx_own (cl.get _) cl.hd ha hn htk hm) I.kIn J e (fun z => nomatch z) h
end
end L2

namespace L2
open PySem PySem.Spec PyProof.Rows

structure Room (k : Nat) (A : Around) : Prop where
  hd : A.handled = none
  dp : A.depth + 3 * k + 5 < recursionLimit
  un : A.units + 16 * k + 200 < cLine
theorem Room.mono {j k : Nat} {A : Around} (r : Room k A) (h : j ≤ k) : Room j A := ⟨r.hd, by have := r.dp; omega, by have := r.un; omega⟩
theorem Room.deeper {k : Nat} {A : Around} (r : Room (k + 1) A) (env : Env) : Room k (A.deeper env) :=
  ⟨r.hd, by have := r.dp; show A.depth + 1 + 3 * k + 5 < _; omega, by have := r.un; show A.units + 3 + 16 * k + 200 < _; omega⟩
theorem make_depth {A : Around} {C : Addr} {us : List Value} {kw : List (Str × Value)} : (A.under (.builtin "type.__call__" ⟨.ref C :: us, kw⟩)).depth = A.depth + 1 := by
  first | rfl | simp [Around.under, Code.weight, Code.isCreation, Code.isGuard, Code.isCaller, Code.frames, Code.isFrame, guardIds]
theorem make_units {A : Around} {C : Addr} {us : List Value} {kw : List (Str × Value)} : (A.under (.builtin "type.__call__" ⟨.ref C :: us, kw⟩)).units = A.units + 1 := by
  first | rfl | simp [Around.under, Code.cUnits, Code.frames, Code.isFrame]
theorem Room.make {k : Nat} {A : Around} (r : Room (k + 1) A) (C : Addr) (us : List Value) (kw : List (Str × Value)) : Room k (A.under (.builtin "type.__call__" ⟨.ref C :: us, kw⟩)) :=
  ⟨r.hd, by have := r.dp; rw [make_depth]; omega, by have := r.un; rw [make_units]; omega⟩
theorem Room.depth {k : Nat} {A : Around} (r : Room k A) : A.depth < recursionLimit := by have := r.dp; omega
theorem Room.units {k : Nat} {A : Around} (r : Room k A) : A.units + 64 < cLine := by have := r.un; omega
def tNil : TA := fun _ H Q => Q [] H
def tCons (ta : TE) (tr : TA) : TA := fun σ H Q => ta σ H fun x H1 => tr σ H1 fun xs H2 => Q (x :: xs) H2
section
variable {X : Cx} {e : Expr} {es : List Expr} {te : TE} {t : TA} {pos : Pos}
theorem pa_nil : PA X [] tNil := fun _ _ _ _ H Q I h => Calls.spliced_nil ⟨[], H, I, .nil, h⟩
theorem pa_cons (ha : PE X e te) (hr : PA X es t) (hs : starEach (e :: es) X.env = (false, eval e X.env) :: starEach es X.env := by rfl) : PA X (e :: es) (tCons te t) := by
  intro pos pins s σ H Q I h
  rw [hs]
  show wpAny _ _ (spliced ((false, eval e X.env) :: backTo pos (starEach es X.env))) _ _ s
  refine Calls.spliced_cons (thn (ha pins s σ H _ I h) fun u s1 ⟨x, H1, I1, r1, q1⟩ => ?_)
  exact thn (hr pos pins s1 σ H1 _ I1 q1) fun us s2 ⟨xs, H2, I2, r2, q2⟩ => ⟨x :: xs, H2, I2, .cons r1 r2, q2⟩

def tTup (t : TA) : TE := fun σ H Q => t σ H fun xs H1 => xs.length ≤ sizeLine ∧ ∀ p, H1 p = none → Q (.ref p) (upd H1 p (.tup xs))
def tLst (t : TA) : TE := fun σ H Q => t σ H fun xs H1 => xs.length ≤ sizeLine ∧ ∀ p, H1 p = none → Q (.ref p) (upd H1 p (.lst xs))
theorem pe_lst (h : PA X es t) : PE X (.List es pos) (tLst t) := by
  intro pins s σ H Q I hq
  refine wpAny_List_spliced (thn (h pos pins s σ H _ I hq) fun us s1 ⟨xs, H1, I1, r, z, q⟩ => ⟨by rw [← r.length]; exact z, ?_⟩)
  have hf : H1 s1.heap.objs.size = none := I1.hok.fresh (Nat.le_refl _)
  refine ⟨.ref s1.heap.objs.size, upd H1 s1.heap.objs.size (.lst xs), I1.laid (t' := s1.toks) (fun b u e => Heap.get?_push_of_some _ e) (Nat.le_refl _) ?_, rfl, q _ hf⟩
  exact ⟨z, us, 0, r, Heap.get?_push_size _ rfl⟩
end

abbrev Sp := List V → Hp → VK → XK → Prop
abbrev CXT := List Env → Hp → Shared → XK → Value → Shared → Prop

structure Env0 (P : Program) (w : World) (K : PySem.W.Frag) (mg : Str → Option Value) (base : Heap) (A : Around) (outer : List Env) (s : Shared) (H : Hp) : Prop where
  frames : A.frames = some outer
  mod : Mod K mg base
  bs : ∀ b o, base.get? b = some o → s.heap.get? b = some o ∧ H b = none
  bsz : base.objs.size ≤ s.heap.objs.size
  funs : s.heap.FunFrames base outer
  frf : ∀ b ∈ frs outer, H b = none
  hok : HOk P w H s.heap
  bare : AllBare s.gens
def CE (outer : List Env) (P : Program) (w : World) (H : Hp) (s : Shared) (Q : VK) (u : Value) (s' : Shared) : Prop :=
  ∃ v H', s'.os = s.os ∧ AllBare s'.gens ∧ Un (frs outer) [] H H' s.heap s'.heap ∧ HOk P w H' s'.heap ∧ RelV v u ∧ Q v H'
def CR (CX : CXT) (outer : List Env) (P : Program) (w : World) (H : Hp) (s : Shared) (Q : VK) (E : XK) (r : Result) (s' : Shared) : Prop :=
  match r with
  | .ok (.ret u) => CE outer P w H s Q u s'
  | .ok _ => False
  | .error e => CX outer H s E e s'
structure FnOk (P : Program) (w : World) (K : PySem.W.Frag) (mg : Str → Option Value) (base : Heap) (CX : CXT) (k : Nat) (f : Addr) (fd : FuncData) (ps : List Str) (sp : Sp) : Prop where
  len : ∀ vs H Q E, sp vs H Q E → vs.length = ps.length
  run : ∀ (A : Around) (outer : List Env) (s : Shared) (H : Hp) (args : Args) (us : List Value) (vs : List V) (Q : VK) (E : XK), Room k A → Env0 P w K mg base A outer s H → BindsTo s fd args (ps.zip us) → Vals vs us → sp vs H Q E →
    codeAny (model P w) A (.call (.ref f) args) (CR CX outer P w H s Q E) s
theorem FnOk.mono {P : Program} {w : World} {K : PySem.W.Frag} {mg : Str → Option Value} {base : Heap} {CX : CXT} {j k : Nat} {f : Addr} {fd : FuncData} {ps : List Str} {sp : Sp} (F : FnOk P w K mg base CX j f fd ps sp) (h : j ≤ k) :
    FnOk P w K mg base CX k f fd ps sp := ⟨F.len, fun A outer s H args us vs Q E hr => F.run A outer s H args us vs Q E (hr.mono h)⟩
theorem Env0.make {P : Program} {w : World} {K : PySem.W.Frag} {mg : Str → Option Value} {base : Heap} {A : Around} {outer : List Env} {s : Shared} {H : Hp} (e : Env0 P w K mg base A outer s H) (C : Addr) (us : List Value) (kw : List (Str × Value)) :
    Env0 P w K mg base (A.under (.builtin "type.__call__" ⟨.ref C :: us, kw⟩)) outer s H := ⟨by first | exact e.frames | (simpa [Around.under, Code.envs, Code.isFrame, pushEnvs] using e.frames), e.mod, e.bs, e.bsz, e.funs, e.frf, e.hok, e.bare⟩
section
variable {X : Cx} {pins : List (Addr × Obj)} {σ : St} {H : Hp} {s s' : Shared}
theorem Inv.env0 (I : Inv X pins σ H s) : Env0 X.prog X.w X.K X.mg X.base X.A X.stack s H :=
  ⟨I.ok.frames, I.ok.mod, I.bs, Nat.le_trans I.ok.bsz I.sz, I.stack, I.stkFree, I.hok, I.bare⟩
theorem Inv.after {Q : VK} {u : Value} (I : Inv X pins σ H s) (h : CE X.stack X.prog X.w H s Q u s') : EP X pins σ Q u s' := by
  obtain ⟨v, H', os, bare, un, hok, r, q⟩ := h
  obtain ⟨hh, g, d, t, os'⟩ := s'
  obtain rfl : os' = s.os := os
  exact ⟨v, H', I.call (h' := hh) (g' := g) (d' := d) (t' := t) (ch := []) un hok bare (fun b z => absurd z (by simp)), r, q⟩
end

def tCall (sp : Sp) (dvs : List V) (E : XK) (t : TA) : TE := fun σ H Q => t σ H fun vs H1 => sp (vs ++ dvs) H1 Q E
def tMeth (C : Addr) (m : Str) (sp : Sp) (dvs : List V) (E : XK) (ta : TE) (t : TA) : TE := fun σ H Q => ta σ H fun x H1 => ∃ a dx fs, x = .ref a ∧ H1 a = some (.ins C dx fs) ∧ fs.lookup m = none ∧
  t σ H1 fun vs H2 => sp (x :: (vs ++ dvs)) H2 Q E
def tMake (C : Addr) (sp : Sp) (dvs : List V) (E : XK) (t : TA) : TE := fun σ H Q => t σ H fun vs H1 => ∀ x dx, H1 x = none → H1 dx = none → dx ≠ x →
  sp (.ref x :: (vs ++ dvs)) (upd (upd H1 dx (.own x)) x (.ins C dx [])) (fun v H2 => v = .non ∧ Q (.ref x) H2) E

def Binds (K : PySem.W.Frag) (fd : FuncData) (ps : List Str) (ds : List Value) : Prop :=
  ∀ (s : Shared) (us : List Value), K.In s.heap → (us ++ ds).length = ps.length → BindsTo s fd ⟨us, []⟩ (ps.zip (us ++ ds))
theorem Binds.all {K : PySem.W.Frag} {fd : FuncData} {ps : List Str} (h : ∀ us : List Value, us.length = ps.length → bindArgs fd ⟨us, []⟩ = pure (ps.zip us)) : Binds K fd ps [] := fun s us _ hl => by
  rw [List.append_nil] at hl ⊢
  exact .of_eq (h us hl)

def Passes (CX : CXT) (X : Cx) (E : XK) : Prop := ∀ (pins : List (Addr × Obj)) (σ : St) (H : Hp) (s : Shared) (e : Value) (s' : Shared), Inv X pins σ H s → CX X.stack H s E e s' → X.xe e s'

section
variable {X : Cx} {CX : CXT} {k : Nat} {f C : Addr} {fd : FuncData} {ps : List Str} {sp : Sp} {dvs : List V} {ds : List Value} {E : XK} {x m : Str} {p pos apos : Pos} {e o : Expr} {es : List Expr} {ta : TE} {t : TA}

theorem run_fn {pins : List (Addr × Obj)} {σ : St} {H : Hp} {s : Shared} {Q : VK} {us : List Value} {vs : List V} (F : FnOk X.prog X.w X.K X.mg X.base CX k f fd ps sp) (hr : Room k X.A) (hb : Binds X.K fd ps ds) (hd : Vals dvs ds) (hx : Passes CX X E)
    (I : Inv X pins σ H s) (r : Vals vs us) (h : sp (vs ++ dvs) H Q E) : wpAny (model X.prog X.w) X.A (call (.ref f) us) (EP X pins σ Q) X.xe s := by
  have r2 : Vals (vs ++ dvs) (us ++ ds) := r.append hd
  have hl : (us ++ ds).length = ps.length := by rw [← r2.length]; exact F.len _ _ _ _ h
  refine wpAny_call (codeAny_mono (F.run X.A X.stack s H ⟨us, []⟩ (us ++ ds) (vs ++ dvs) Q E hr I.env0 (hb s us I.kIn hl) r2 h) fun r s' hq => ?_)
  cases r with
  | error e => exact hx pins σ H s e s' I hq
  | ok fl =>
    cases fl with
    | ret u => exact I.after hq
    | next => exact False.elim hq
    | brk => exact False.elim hq
    | cont => exact False.elim hq

theorem pe_call (F : FnOk X.prog X.w X.K X.mg X.base CX k f fd ps sp) (hr : Room k X.A) (hg : Gl X x) (hm : X.mg x = some (.ref f)) (hk : PySem.W.keepIn X.K (.ref f) = true) (hb : Binds X.K fd ps ds) (hd : Vals dvs ds) (hx : Passes CX X E)
    (ha : PA X (e :: es) t) (hdb : (x == ("__debug__" : Str)) = false := by decide) (he : starEach (e :: es) X.env = (false, eval e X.env) :: starEach es X.env := by rfl) (hpl : (backTo pos (starEach es X.env)).any (·.1) = false := by rfl) :
    PE X (.Call (.Name x p) (e :: es) [] pos) (tCall sp dvs E t) := by
  intro pins s σ H Q I h
  refine wpAny_Call_Name_kw (ld_glob I hg hm ?_ hdb)
  refine PySem.W.callWith_K (h₀ := X.base) I.ok.mod.kin hk (thn (ha pos pins s σ H _ I h) fun us s1 ⟨vs, H1, I1, r, q⟩ => ⟨I1.kIn, ?_⟩) he hpl
  exact run_fn F hr hb hd hx I1 r q
theorem pe_meth {pl : Sem Bool} (he : PE X o ta) (c : Cls X.K C) (hm : Meth X.K C m f) (F : FnOk X.prog X.w X.K X.mg X.base CX k f fd ps sp) (hr : Room k X.A) (hb : Binds X.K fd ps ds) (hd : Vals dvs ds) (hx : Passes CX X E) (ha : PA X (e :: es) t)
    (hst : starEach (e :: es) X.env = (false, eval e X.env) :: starEach es X.env := by rfl) (hpl : (backTo pos (starEach es X.env)).any (·.1) = false := by rfl)
    (ht : eval (.Call (.Attribute o m apos) (e :: es) [] pos) X.env = (do
      let ov ← eval o X.env
      standAt apos.atName
      let (f, first) ← holding [ov] (getMethod ov m pl)
      callWith pos f first (backTo pos (starEach (e :: es) X.env)) (backToKw pos (keywordEach [] X.env))) := by rfl) :
    PE X (.Call (.Attribute o m apos) (e :: es) [] pos) (tMeth C m sp dvs E ta t) := by
  intro pins s σ H Q I h
  refine PySem.W.methodCall_KW (pl := pl) (thn (he pins s σ H _ I h) fun u s1 ⟨x, H1, I1, rx, a, dx, fs, ex, ea, l, q⟩ => ?_) ht
  subst ex
  obtain rfl : u = Value.ref a := rx
  refine getmeth_ok I1 ea c hm l ?_
  refine PySem.W.callWith_K (first := [.ref a]) (h₀ := X.base) I.ok.mod.kin hm.kp (thn (ha pos pins s1 σ H1 _ I1 q) fun us s2 ⟨vs, H2, I2, r, q2⟩ => ⟨I2.kIn, ?_⟩) hst hpl
  exact run_fn (us := .ref a :: us) (vs := .ref a :: vs) F hr hb hd hx I2 (.cons rfl r) q2
structure Mk (K : PySem.W.Frag) (C f : Addr) : Prop where
  makes : PySem.W.makesIn K C = true
  init : PySem.W.findIn K (.ref C) "__init__" = some (some (.ref f))
  fn : PySem.W.isFn K (.ref f) = true
  kp : PySem.W.keepIn K (.ref C) = true

theorem run_make {pins : List (Addr × Obj)} {σ : St} {H : Hp} {s : Shared} {Q : VK} {us : List Value} {vs : List V} (M : Mk X.K C f) (F : FnOk X.prog X.w X.K X.mg X.base CX k f fd ps sp) (hr : Room (k + 1) X.A) (hb : Binds X.K fd ps ds) (hd : Vals dvs ds)
    (hx : Passes CX X E) (I : Inv X pins σ H s) (r : Vals vs us)
    (h : ∀ x dx, H x = none → H dx = none → dx ≠ x → sp (.ref x :: (vs ++ dvs)) (upd (upd H dx (.own x)) x (.ins C dx [])) (fun v H2 => v = .non ∧ Q (.ref x) H2) E) :
    wpAny (model X.prog X.w) X.A (call (.ref C) us) (EP X pins σ Q) X.xe s := by
  have hq := h (s.heap.objs.size + 1) s.heap.objs.size (I.hok.fresh (Nat.le_succ _)) (I.hok.fresh (Nat.le_refl _)) (Nat.ne_of_lt (Nat.lt_succ_self _))
  have I2 := Inv.made (C := C) I
  have r2 : Vals (V.ref (s.heap.objs.size + 1) :: (vs ++ dvs)) (Value.ref (s.heap.objs.size + 1) :: (us ++ ds)) := .cons rfl (r.append hd)
  have hl : (Value.ref (s.heap.objs.size + 1) :: us ++ ds).length = ps.length := by
    have e := r2.length
    rw [F.len _ _ _ _ hq] at e
    exact e.symm
  refine wpAny_call (make_map (f := f) I.kIn M.makes M.init (beq_iff_eq.mp M.fn) (codeAny_mono (F.run _ X.stack _ _ ⟨Value.ref (s.heap.objs.size + 1) :: us, []⟩ (Value.ref (s.heap.objs.size + 1) :: (us ++ ds)) _ _ E (hr.make C us [])
    (I2.env0.make C us []) (hb _ (Value.ref (s.heap.objs.size + 1) :: us) I2.kIn hl) r2 hq) fun r s' hq' => ?_))
  cases r with
  | error e => exact hx pins σ _ _ e s' I2 hq'
  | ok fl =>
    cases fl with
    | ret u =>
      obtain ⟨v, H', I3, rv, ev, q3⟩ := I2.after hq'
      subst ev
      exact ⟨rv, ⟨V.ref (s.heap.objs.size + 1), H', I3, rfl, q3⟩⟩
    | next => exact False.elim hq'
    | brk => exact False.elim hq'
    | cont => exact False.elim hq'
theorem pe_make0 (M : Mk X.K C f) (F : FnOk X.prog X.w X.K X.mg X.base CX k f fd ps sp) (hr : Room (k + 1) X.A) (hg : Gl X x) (hm : X.mg x = some (.ref C)) (hb : Binds X.K fd ps ds) (hd : Vals dvs ds) (hx : Passes CX X E)
    (hdb : (x == ("__debug__" : Str)) = false := by decide) : PE X (.Call (.Name x p) [] [] pos) (tMake C sp dvs E tNil) := by
  intro pins s σ H Q I h
  refine wpAny_Call_Name_kw (ld_glob I hg hm ?_ hdb)
  exact PySem.W.callWith_K0 I.kIn M.kp (run_make (us := []) M F hr hb hd hx I .nil h)
end

def PK (X : Cx) (kws : List Keyword) (t : TA) : Prop :=
  ∀ (pos : Pos) (pins : List (Addr × Obj)) (s : Shared) (σ : St) (H : Hp) (Q : List V → Hp → Prop), Inv X pins σ H s → t σ H Q → wpAny (model X.prog X.w) X.A (evalAll ((backToKw pos (keywordEach kws X.env)).map (·.2))) (AP X pins σ Q) X.xe s
section
variable {X : Cx} {CX : CXT} {k : Nat} {f C : Addr} {fd : FuncData} {ps ks : List Str} {sp : Sp} {E : XK} {x m : Str} {p pos apos kpos : Pos} {e o : Expr} {es : List Expr} {kws : List Keyword} {te ta : TE} {t tk : TA} {nm : Option Str}
structure KBinds (K : PySem.W.Frag) (fd : FuncData) (ps ks : List Str) (g : List Value → List Value → List Value) (gV : List V → List V → List V) : Prop where
  to : ∀ (s : Shared) (us ws : List Value), K.In s.heap → (g us ws).length = ps.length → BindsTo s fd ⟨us, ks.zip ws⟩ (ps.zip (g us ws))
  rel : ∀ {vs : List V} {us : List Value} {zs : List V} {ws : List Value}, Vals vs us → Vals zs ws → Vals (gV vs zs) (g us ws)
def tCallK (sp : Sp) (gV : List V → List V → List V) (E : XK) (t tk : TA) : TE := fun σ H Q => t σ H fun vs H1 => tk σ H1 fun zs H2 => sp (gV vs zs) H2 Q E
variable {g : List Value → List Value → List Value} {gV : List V → List V → List V}
end

structure FnScope (N P : List Str) (sc : Scope) : Prop where
  kind : sc.kind = .function
  co : sc.isCoroutine = false
  gen : sc.isGenerator = false
  nd : N.Nodup
  pre : N.take P.length = P
  par : ∀ x ∈ P, sc.names.lookup x = some .local ∨ sc.names.lookup x = some .cell
  nofree : ∀ y ∈ sc.names, y.2 ≠ .free

theorem bindL_out {kindOf : Str → Option NameKind} {x : Str} : ∀ {binds : List (Str × Value)} {m : Str → Option Value}, (∀ v, (x, v) ∉ binds) → bindL kindOf binds m x = m x
  | [], _, _ => rfl
  | (n, v) :: r, m, h => by
    unfold bindL
    rw [bindL_out fun w hw => h w (List.mem_cons_of_mem _ hw)]
    split
    · have : x ≠ n := by rintro rfl; exact h v List.mem_cons_self
      simp [this]
    · rfl
theorem bindC_out {kindOf : Str → Option NameKind} {x : Str} : ∀ {binds : List (Str × Value)} {m : Str → Option Value}, (∀ v, (x, v) ∉ binds) → bindC kindOf binds m x = m x
  | [], _, _ => rfl
  | (n, v) :: r, m, h => by
    unfold bindC
    rw [bindC_out fun w hw => h w (List.mem_cons_of_mem _ hw)]
    split
    · rfl
    · have : x ≠ n := by rintro rfl; exact h v List.mem_cons_self
      simp [this]
theorem bindL_get {kindOf : Str → Option NameKind} {x : Str} {v : Value} : ∀ {P : List Str} {vs : List Value} {i : Nat} {m : Str → Option Value}, P.Nodup → P[i]? = some x → vs[i]? = some v → kindOf x = some .local →
    bindL kindOf (P.zip vs) m x = some v
  | [], _, _, _, _, h, _, _ => by simp at h
  | _ :: _, [], _, _, _, _, h, _ => by simp at h
  | p :: P, w :: vs, 0, m, nd, h1, h2, hk => by
    simp at h1 h2; subst h1; subst h2
    show bindL kindOf ((p, w) :: P.zip vs) m p = _
    unfold bindL
    rw [bindL_out fun v hv => (List.nodup_cons.mp nd).1 (List.of_mem_zip hv).1, if_pos hk]
    simp
  | p :: P, w :: vs, i + 1, m, nd, h1, h2, hk => by
    show bindL kindOf ((p, w) :: P.zip vs) m x = _
    unfold bindL
    exact bindL_get (i := i) (List.nodup_cons.mp nd).2 (by simpa using h1) (by simpa using h2) hk
theorem bindC_get {kindOf : Str → Option NameKind} {x : Str} {v : Value} : ∀ {P : List Str} {vs : List Value} {i : Nat} {m : Str → Option Value}, P.Nodup → P[i]? = some x → vs[i]? = some v → kindOf x ≠ some .local →
    bindC kindOf (P.zip vs) m x = some v
  | [], _, _, _, _, h, _, _ => by simp at h
  | _ :: _, [], _, _, _, _, h, _ => by simp at h
  | p :: P, w :: vs, 0, m, nd, h1, h2, hk => by
    simp at h1 h2; subst h1; subst h2
    show bindC kindOf ((p, w) :: P.zip vs) m p = _
    unfold bindC
    rw [bindC_out fun v hv => (List.nodup_cons.mp nd).1 (List.of_mem_zip hv).1, if_neg hk]
    simp
  | p :: P, w :: vs, i + 1, m, nd, h1, h2, hk => by
    show bindC kindOf ((p, w) :: P.zip vs) m x = _
    unfold bindC
    exact bindC_get (i := i) (List.nodup_cons.mp nd).2 (by simpa using h1) (by simpa using h2) hk

def start (N : List Str) (vs : List V) : St := vs.map some ++ List.replicate (N.length - vs.length) none

def cxOf (CX : CXT) (P : Program) (w : World) (K : PySem.W.Frag) (mg : Str → Option Value) (base : Heap) (N : List Str) (qual : Str) (scope : Scope) (f : Addr) (cd : Value) (A : Around) (outer : List Env) (s : Shared) (H : Hp) (E : XK) : Cx where
  prog := P
  w := w
  K := K
  mg := mg
  base := base
  A := A.deeper (envOfC qual scope s.heap.objs.size f cd)
  N := N
  s₀ := s
  H₀ := H
  env := envOfC qual scope s.heap.objs.size f cd
  outer := outer
  stack := envOfC qual scope s.heap.objs.size f cd :: outer
  ex := []
  calm := true
  fn := fun _ => true
  pn := []
  xe := fun e s' => wpAny (model P w) (A.deeper (envOfC qual scope s.heap.objs.size f cd)) (leaving (envOfC qual scope s.heap.objs.size f cd) e) (fun _ s'' => CX outer H s E e s'') (fun e' s'' => CX outer H s E e' s'') s'

theorem cell_has {sc : Scope} {n : Nat} {x : Str} (h : sc.names.lookup x = some .cell) : ∃ c, (cellsFrom n sc.names []).lookup x = some c := by
  have q := PySem.W.cellsFrom_some sc.names n [] (.inl h)
  exact Option.isSome_iff_exists.mp q

theorem inv_start {CX : CXT} {P : Program} {w : World} {K : PySem.W.Frag} {mg : Str → Option Value} {base : Heap} {N ps : List Str} {qual : Str} {scope : Scope} {f : Addr} {cd : Value} {A : Around} {outer : List Env} {s s1 : Shared} {H : Hp} {E : XK} {us : List Value} {vs : List V}
    (S : FnScope N ps scope) (hd : A.handled = none) (e0 : Env0 P w K mg base A outer s H) (hl : vs.length = ps.length) (r : Vals vs us)
    (x : InCallC s s.heap.objs.size (bindL (envOfC qual scope s.heap.objs.size f cd).kindOf (ps.zip us) fun _ => none) (cellsFrom (s.heap.objs.size + 1) scope.names []) (bindC (envOfC qual scope s.heap.objs.size f cd).kindOf (ps.zip us) fun _ => none) s1) :
    Inv (cxOf CX P w K mg base N qual scope f cd A outer s H E) [] (start N vs) H s1 := by
  have hpl : ps.length ≤ N.length := by have := congrArg List.length S.pre; rw [List.length_take] at this; omega
  obtain ⟨h1, tk, rfl, hk⟩ := x.done
  have noA : ∀ b : Addr, b ∉ (cxOf CX P w K mg base N qual scope f cd A outer s H E).ex := fun b z => absurd (show b ∈ ([] : List Addr) from z) (by simp)
  refine ⟨⟨e0.mod, S.kind, rfl, rfl, Nat.le_refl _, fun y z c h1 h2 => ?_, fun y hy => ?_, fun y c _ h => ?_, fun _ => hd, Around.frames_deeper e0.frames, .inr ⟨rfl, rfl⟩, fun b z => absurd z (noA b), e0.bs, e0.bsz, fun b _ _ => noA b, fun b z => absurd z (noA b), e0.funs, e0.frf⟩,
    rfl, e0.bare, Un.kept hk, ⟨_, x.toInCall.ns, fun i y v h1 h2 h3 => ?_⟩, fun y c h => ⟨_, x.cell y c h⟩, e0.hok.fresh (Nat.le_refl _), fun y c h => ?_, fun p hp => absurd (show p ∈ ([] : List (Addr × Obj)) from hp) (by simp), e0.hok.kept hk, ?_⟩
  · exact name_of_addr x.apart (PySem.mem_of_lookup h1) (PySem.mem_of_lookup h2)
  · have hy : scope.names.lookup y = some .cell ∨ scope.names.lookup y = some .free := hy
    rcases hy with hy | hy
    · exact cell_has hy
    · exact absurd rfl (S.nofree _ (PySem.mem_of_lookup hy))
  · exact Nat.le_of_lt (x.above y c (PySem.mem_of_lookup h))
  · have hi : i < vs.length := by
      unfold start at h2
      by_cases hi : i < vs.length
      · exact hi
      · rw [List.getElem?_append_right (by simpa using hi)] at h2
        rw [List.getElem?_replicate] at h2
        split at h2 <;> cases h2
    have ha : vs[i]? = some v := by
      unfold start at h2
      rw [List.getElem?_append_left (by simpa using hi), List.getElem?_map] at h2
      cases e : vs[i]? with
      | none => rw [e] at h2; cases h2
      | some a => rw [e] at h2; cases h2; rfl
    obtain ⟨u, hu, rv⟩ := r.get ha
    have hp : ps[i]? = some y := by
      rw [← S.pre, List.getElem?_take_of_lt (by omega)]; exact h1
    have ndP : ps.Nodup := by rw [← S.pre]; exact S.nd.sublist (List.take_sublist _ _)
    refine ⟨u, rv, ?_⟩
    rcases S.par y (List.mem_of_getElem? hp) with k | k
    · exact .inl ⟨k, bindL_get ndP hp hu k⟩
    · obtain ⟨c, e⟩ := cell_has (n := s.heap.objs.size + 1) k
      refine .inr ⟨.inl k, c, e, ?_⟩
      have q := x.cell y c e
      rw [bindC_get ndP hp hu (by show scope.names.lookup y ≠ _; rw [k]; decide)] at q
      exact q
  · exact e0.hok.fresh (Nat.le_of_lt (x.above y c (PySem.mem_of_lookup h)))
  · unfold start
    show _ = N.length
    rw [List.length_append, List.length_map, List.length_replicate]
    omega

theorem fn_of {CX : CXT} {P : Program} {w : World} {K : PySem.W.Frag} {mg : Str → Option Value} {base : Heap} {k : Nat} {f : Addr} {name qual : Str} {params : Arguments} {body : List Stmt} {scope : Scope} {dV kV doc pm cdv ct oc : Value} {an od : Option Addr}
    {osl : Array (Option Value)} {N ps : List Str} {sp : Sp} (lk : K.lookup f = some ⟨oc, od, .func (PySem.W.fnOf name qual params body scope dV kV doc pm an cdv ct), osl⟩) (hcd : PySem.W.codeIn K cdv qual = true) (S : FnScope N ps scope)
    (len : ∀ vs H Q E, sp vs H Q E → vs.length = ps.length)
    (hbody : ∀ (A : Around) (outer : List Env) (s : Shared) (H : Hp) (vs : List V) (Q : VK) (E : XK), Room k (A.deeper (envOfC qual scope s.heap.objs.size f cdv)) → sp vs H Q E →
      ∃ t, PSs (cxOf CX P w K mg base N qual scope f cdv A outer s H E) body t ∧ t { nx := fun _ H' => Q .non H', rt := Q } (start N vs) H) :
    FnOk P w K mg base CX (k + 1) f (PySem.W.fnOf name qual params body scope dV kV doc pm an cdv ct) ps sp := by
  refine ⟨len, fun A outer s H args us vs Q E hr e0 hb r hsp => ?_⟩
  have hl := len _ _ _ _ hsp
  have KX : K.In s.heap := e0.mod.kin.keeps fun b o e => (e0.bs b o e).1
  have lim : s.heap.NoLimit := e0.mod.nolimit.keeps fun b o e => (e0.bs b o e).1
  have hkind : ∀ y ∈ ps.zip us, scope.names.lookup y.1 = some .local ∨ (scope.names.lookup y.1 = some .cell ∧ ((cellsFrom (s.heap.objs.size + 1) scope.names []).lookup y.1).isSome = true) := fun ⟨n, v⟩ hy => by
    rcases S.par n (List.of_mem_zip hy).1 with q | q
    · exact .inl q
    · exact .inr ⟨q, PySem.W.cellsFrom_some _ _ _ (.inl q)⟩
  refine codeAny_call_function hr.depth (KX _ _ lk) rfl S.co S.gen rfl (PySem.W.codeRec_of KX hcd) (hb _ _ _ _ ?_)
  refine wpAny_newFunctionEnv_cells S.kind hkind fun env he s1 x => ?_
  subst he
  refine ⟨lim.keeps x.toInCall.keep, codeAny_func ?_⟩
  obtain ⟨t, ht, hq⟩ := hbody A outer s H vs Q E (hr.deeper _) hsp
  have I : Inv (cxOf CX P w K mg base N qual scope f cdv A outer s H E) [] (start N vs) H s1 := inv_start S hr.hd e0 hl r x
  refine wpAny_mono (ht [] s1 (start N vs) H _ I hq) (fun fl s' hs => ?_) fun e s' hs => hs
  have fin : ∀ {σ' : St} {H' : Hp} {v : V} {u : Value}, Inv (cxOf CX P w K mg base N qual scope f cdv A outer s H E) [] σ' H' s' → RelV v u → Q v H' → CE outer P w H s Q u s' :=
    fun {σ' H' v u} J rv q => ⟨v, H', J.os, J.bare, J.base, J.hok, rv, q⟩
  cases fl with
  | ret u =>
    obtain ⟨v, σ', H', J, rv, q⟩ := hs
    exact fin J rv q
  | next =>
    obtain ⟨σ', H', J, q⟩ := hs
    exact fin (v := V.non) (u := Value.none) J rfl q
  | brk =>
    obtain ⟨_, _, _, q⟩ := hs
    exact False.elim q
  | cont =>
    obtain ⟨_, _, _, q⟩ := hs
    exact False.elim q
end L2

namespace L2
open PySem PySem.Spec PyProof.Rows
section
variable {X : Cx} {x : Str} {p pos : Pos} {e : Expr} {es : List Expr} {t : TA} {id T : String} {r : List V → Hp → VK → Prop}

def tCB (r : List V → Hp → VK → Prop) (t : TA) : TE := fun σ H Q => t σ H fun vs H1 => r vs H1 Q
theorem pe_callB (hc : CallR X (.builtin id) r) (hg : Gl X x) (hm : X.mg x = none) (hv : bootBuiltins x = some (.builtin id)) (ha : PA X (e :: es) t) (hn : x ≠ "__name__" := by decide) (hdb : (x == ("__debug__" : Str)) = false := by decide)
    (he : starEach (e :: es) X.env = (false, eval e X.env) :: starEach es X.env := by rfl) (hpl : (backTo pos (starEach es X.env)).any (·.1) = false := by rfl) : PE X (.Call (.Name x p) (e :: es) [] pos) (tCB r t) := by
  intro pins s σ H Q I h
  refine wpAny_Call_Name_kw (ld_blt I hg hm hv ?_ hn hdb)
  exact PyProof.Rows.callWith_builtin1 (thn (ha pos pins s σ H _ I h) fun us s1 ⟨vs, H1, I1, r1, q1⟩ => hc pins s1 σ H1 vs us Q I1 r1 q1) he hpl
theorem pe_callTy (hc : CallR X (.type T) r) (hg : Gl X x) (hm : X.mg x = none) (hv : bootBuiltins x = some (.type T)) (ha : PA X (e :: es) t) (hn : x ≠ "__name__" := by decide) (hdb : (x == ("__debug__" : Str)) = false := by decide)
    (he : starEach (e :: es) X.env = (false, eval e X.env) :: starEach es X.env := by rfl) (hpl : (backTo pos (starEach es X.env)).any (·.1) = false := by rfl) : PE X (.Call (.Name x p) (e :: es) [] pos) (tCB r t) := by
  intro pins s σ H Q I h
  refine wpAny_Call_Name_kw (ld_blt I hg hm hv ?_ hn hdb)
  exact PyProof.Rows.callWith_type1 (thn (ha pos pins s σ H _ I h) fun us s1 ⟨vs, H1, I1, r1, q1⟩ => hc pins s1 σ H1 vs us Q I1 r1 q1) he hpl
end
end L2

namespace HT
open PySem PyProof.Rows

def lexLt : List Int → List Int → Bool
  | [], [] => false
  | [], _ :: _ => true
  | _ :: _, [] => false
  | x :: xs, y :: ys => if x = y then lexLt xs ys else decide (x < y)
section
open PySem.SeqAt
open PySem.AutoSeq1 (wpAny_loadPart')
open PySem.MeetsSeq PySem.MeetsSeq2 PySem.MeetsSeq3

end

section
variable {prog : Program} {w : World} {A : Around} {E : Value → Shared → Prop} {s : Shared}

def sIx (n d : Nat) : Option Int → Nat
  | none => d
  | some v => if v < 0 then (v + (n : Int)).toNat else min v.toNat n
theorem sIx_nat (n d k : Nat) : sIx n d (some (k : Int)) = min k n := by
  show (if (k : Int) < 0 then ((k : Int) + (n : Int)).toNat else min (k : Int).toNat n) = min k n
  rw [if_neg (by omega), Int.toNat_natCast]
end
end HT

namespace L2
open PySem PySem.Spec PyProof.Rows

abbrev TO := St → Hp → (Option Int → Hp → Prop) → Prop
def PO (X : Cx) (e : Option Expr) (t : TO) : Prop :=
  ∀ (pins : List (Addr × Obj)) (s : Shared) (σ : St) (H : Hp) (Q : Option Int → Hp → Prop), Inv X pins σ H s → t σ H Q →
    wpAny (model X.prog X.w) X.A (evalPart e X.env) (fun u s' => ∃ o H', Inv X pins σ H' s' ∧ IsPart u o ∧ Q o H') X.xe s
def tNoPart : TO := fun _ H Q => Q none H
def tPart (t : TE) : TO := fun σ H Q => t σ H fun x H1 => ∃ i, x = .int i ∧ Q (some i) H1

section
variable {X : Cx} {e : Expr} {te : TE} {lo hi : Option Expr} {tl th : TO} {pos p2 : Pos}

theorem po_some (h : PE X e te) : PO X (some e) (tPart te) := by
  intro pins s σ H Q I hw
  rw [evalPart_some]
  refine thn (h pins s σ H _ I hw) fun u s1 ⟨x, H1, I1, r1, q1⟩ => ?_
  obtain ⟨i, rfl, q⟩ := q1
  obtain ⟨t, rfl⟩ := r1
  exact ⟨some i, H1, I1, .int i t, q⟩

def SlR (X : Cx) (r : V → Option Int → Option Int → Hp → VK → Prop) : Prop :=
  ∀ (pins : List (Addr × Obj)) (s : Shared) (σ : St) (H : Hp) (x : V) (v vl vu : Value) (lo hi : Option Int) (sl : Addr) (Q : VK), Inv X pins σ H s → RelV x v → s.heap.IsSliceOf sl vl vu .none → IsPart vl lo → IsPart vu hi → r x lo hi H Q →
    ∃ T id, typeLookup (.type T) "__getitem__" = pure (some (.builtin id)) ∧ s.TypeIs v T ∧ wpAny (model X.prog X.w) X.A (getItem v (.ref sl)) (EP X pins σ Q) X.xe s
def tSl (r : V → Option Int → Option Int → Hp → VK → Prop) (te : TE) (tl th : TO) : TE := fun σ H Q => te σ H fun x H1 => tl σ H1 fun l H2 => th σ H2 fun u H3 => r x l u H3 Q
theorem pe_slice {r : V → Option Int → Option Int → Hp → VK → Prop} (hr : SlR X r) (he : PE X e te) (hl : PO X lo tl) (hu : PO X hi th) : PE X (.Subscript e (.Slice lo hi none p2) pos) (tSl r te tl th) := by
  intro pins s σ H Q I h
  refine Subscript_ (thn (he pins s σ H _ I h) fun v s1 ⟨x, H1, I1, r1, q1⟩ => ?_)
  refine wpAny_Slice (thn (hl pins s1 σ H1 _ I1 q1) fun vl s2 ⟨l, H2, I2, pl, q2⟩ => thn (hu pins s2 σ H2 _ I2 q2) fun vu s3 ⟨u, H3, I3, pu, q3⟩ => ?_)
  rw [evalPart_none]
  refine wpAny_pure ?_
  have I4 : Inv X pins σ H3 { s3 with heap := s3.heap.push { cls := .type "slice", data := .fields #[vl, vu, .none] } } := I3.kept (t' := s3.toks) fun b ob q => Heap.get?_push_of_some _ q
  obtain ⟨T, id, hT, ht, hg⟩ := hr pins { s3 with heap := s3.heap.push { cls := .type "slice", data := .fields #[vl, vu, .none] } } σ H3 x v vl vu l u s3.heap.objs.size Q I4 r1 (Heap.IsSliceOf.new ..) pl pu q3
  show wpAny (model X.prog X.w) X.A (subscriptTail e (.Slice lo hi none p2) v (.ref s3.heap.objs.size)) (EP X pins σ Q) X.xe { s3 with heap := s3.heap.push { cls := .type "slice", data := .fields #[vl, vu, .none] } }
  exact tail_any (ops := [.ref s3.heap.objs.size, v]) ht hT hg (by with_unfolding_all rfl)

def cutV (xs : List V) (lo hi : Option Int) : List V := (xs.drop (HT.sIx xs.length 0 lo)).take (HT.sIx xs.length xs.length hi - HT.sIx xs.length 0 lo)
theorem cutV_length (xs : List V) (lo hi : Option Int) : (cutV xs lo hi).length ≤ xs.length := by
  unfold cutV
  rw [List.length_take, List.length_drop]
  omega
def rSlT (K : PySem.W.Frag) : V → Option Int → Option Int → Hp → VK → Prop := fun x lo hi H Q => ∃ a xs, x = .ref a ∧ SqT K H a xs ∧
  ¬ (HT.sIx xs.length 0 lo = 0 ∧ HT.sIx xs.length xs.length hi = xs.length) ∧ ∀ p, H p = none → Q (.ref p) (upd H p (.tup (cutV xs lo hi)))
def rLtT (K : PySem.W.Frag) : R2 := fun x y H Q => ∃ a b ns ms, x = .ref a ∧ y = .ref b ∧ SqT K H a (ns.map V.int) ∧ SqT K H b (ms.map V.int) ∧ Q (.bl (HT.lexLt ns ms)) H
def rCatT (K : PySem.W.Frag) : R2 := fun x y H Q => ∃ a b xs ys, x = .ref a ∧ y = .ref b ∧ SqT K H a xs ∧ SqT K H b ys ∧ xs ≠ [] ∧ xs.length + ys.length ≤ sizeLine ∧
  (ys = [] → Q (.ref a) H) ∧ (ys ≠ [] → ∀ p, H p = none → Q (.ref p) (upd H p (.tup (xs ++ ys))))
end
end L2

namespace L2
open PySem PySem.Spec PyProof.Rows

def ixN (n : Nat) (i : Int) : Option Nat := if 0 ≤ i then (if i < n then some i.toNat else none) else if -(n : Int) ≤ i then some (i + n).toNat else none
def atI {α : Type} (xs : List α) (i : Int) : Option α := (ixN xs.length i).bind fun j => xs[j]?
theorem ixN_seq {n : Nat} {i : Int} {j : Nat} (h : ixN n i = some j) : seqIndex? i n = some j ∧ j < n ∧ -(n : Int) ≤ i ∧ i < n := by
  unfold ixN at h
  by_cases h0 : 0 ≤ i
  · rw [if_pos h0] at h
    by_cases h1 : i < n
    · rw [if_pos h1] at h
      have e : i.toNat = j := Option.some.inj h
      exact ⟨by rw [seqIndex_of h0 h1, e], by omega, by omega, h1⟩
    · rw [if_neg h1] at h; cases h
  · rw [if_neg h0] at h
    by_cases h1 : -(n : Int) ≤ i
    · rw [if_pos h1] at h
      have e : (i + n).toNat = j := Option.some.inj h
      exact ⟨by rw [seqIndex_neg (by omega) h1, e], by omega, h1, by omega⟩
    · rw [if_neg h1] at h; cases h
theorem atI_get {α : Type} {xs : List α} {i : Int} {v : α} (h : atI xs i = some v) : ∃ j, seqIndex? i xs.length = some j ∧ xs[j]? = some v ∧ j < xs.length ∧ -(xs.length : Int) ≤ i ∧ i < xs.length := by
  unfold atI at h
  cases e : ixN xs.length i with
  | none => rw [e] at h; cases h
  | some j =>
    rw [e] at h
    obtain ⟨h1, h2, h3, h4⟩ := ixN_seq e
    exact ⟨j, h1, h, h2, h3, h4⟩
theorem atI_nat {α : Type} {xs : List α} {j : Nat} {v : α} (h : xs[j]? = some v) : atI xs (j : Int) = some v := by
  have hj : j < xs.length := (List.getElem?_eq_some_iff.mp h).1
  have e : ixN xs.length (j : Int) = some j := by
    unfold ixN
    rw [if_pos (by omega), if_pos (by omega)]; simp
  unfold atI; rw [e]; exact h
theorem atI_last {α : Type} (xs : List α) (v : α) : atI (xs ++ [v]) (-1) = some v := by
  have hl : (xs ++ [v]).length = xs.length + 1 := by simp
  have e : ixN (xs ++ [v]).length (-1) = some xs.length := by
    unfold ixN
    rw [hl, if_neg (by decide), if_pos (by omega)]
    congr 1
    omega
  unfold atI
  rw [e]
  show (xs ++ [v])[xs.length]? = some v
  simp

def PlainIx (b : Expr) : Prop := ∀ o i, subscripted b false o i = operate [o, i] (getItem o i)
def IxR (X : Cx) (r : R2) : Prop :=
  ∀ (value slice : Expr) (pins : List (Addr × Obj)) (s : Shared) (σ : St) (H : Hp) (x y : V) (v u : Value) (Q : VK), Inv X pins σ H s → RelV x v → RelV y u → r x y H Q →
    subscripted slice false v u = operate [v, u] (getItem v u) → wpAny (model X.prog X.w) X.A (subscriptTail value slice v u) (EP X pins σ Q) X.xe s
def MtR (X : Cx) (id : String) (r : V → List V → Hp → VK → Prop) : Prop :=
  ∀ (pins : List (Addr × Obj)) (s : Shared) (σ : St) (H : Hp) (x : V) (xs : List V) (v : Value) (us : List Value) (Q : VK), Inv X pins σ H s → RelV x v → Vals xs us → r x xs H Q →
    wpAny (model X.prog X.w) X.A (call (.builtin id) (v :: us)) (EP X pins σ Q) X.xe s
section
variable {X : Cx} {a b : Expr} {ta tb : TE} {pos : Pos}
theorem IxR.or {r r' : R2} (h : IxR X r) (h' : IxR X r') : IxR X (fun x y H Q => r x y H Q ∨ r' x y H Q) := by
  intro value slice pins s σ H x y v u Q I rx ry q hs
  rcases q with q | q
  · exact h value slice pins s σ H x y v u Q I rx ry q hs
  · exact h' value slice pins s σ H x y v u Q I rx ry q hs
theorem pe_ix {r : R2} (hr : IxR X r) (ha : PE X a ta) (hb : PE X b tb) (hs : PlainIx b) : PE X (.Subscript a b pos) (tOp r ta tb) := by
  intro pins s σ H Q I h
  exact Subscript_ (binT ha hb I h fun v u s2 x y H2 I2 rx ry q => hr a b pins s2 σ H2 x y v u Q I2 rx ry q (hs _ _))

def rIxL (K : PySem.W.Frag) : R2 := fun x y H Q => ∃ p xs i v, x = .ref p ∧ y = .int i ∧ SqL K H p xs ∧ atI xs i = some v ∧ Q v H
def rIxT (K : PySem.W.Frag) : R2 := fun x y H Q => ∃ p xs i v, x = .ref p ∧ y = .int i ∧ SqT K H p xs ∧ atI xs i = some v ∧ Q v H
def rIxS : R2 := fun x y H Q => ∃ z i c, x = .str z ∧ y = .int i ∧ z.length ≤ sizeLine ∧ atI z.cps.toList i = some c ∧ Q (.str ⟨#[c]⟩) H
theorem ix_list : IxR X (rIxL X.K) := by
  intro value slice pins s σ H x y v u Q I rx ry h hs
  obtain ⟨p, xs, i, z, rfl, rfl, hq, he, q⟩ := h
  cases rx
  obtain ⟨t, rfl⟩ := ry
  obtain ⟨its, r, pl, hz⟩ := I.list hq
  obtain ⟨j, h1, h2, h3, h4, h5⟩ := atI_get he
  obtain ⟨w, ew, rw'⟩ := r.get h2
  have hl := r.length
  have hn := line63
  have fin : EP X pins σ Q w s := ⟨z, H, I, rw', q⟩
  by_cases h0 : 0 ≤ i
  · have hj : i.toNat = j := by
      rw [seqIndex_of h0 h5] at h1
      exact Option.some.inj h1
    exact item_listR pl.isList h0 (by omega) (by rw [hj]; simpa using ew) fin hs
  · have hj : (i + (its.toArray.size : Int)).toNat = j := by
      rw [seqIndex_neg (by omega) h4] at h1
      rw [List.size_toArray, ← hl]
      exact Option.some.inj h1
    exact subscriptTail_builtinR (x := w) pl.isList.typeIs slot_list_getitem.lookup
      (wpAny_getItem_list_neg (Q := fun r s' => r = w ∧ EP X pins σ Q r s') pl.isList (by omega) (by rw [List.size_toArray] <;> omega) (by omega) (by rw [hj]; simpa using ew) ⟨rfl, fin⟩) hs
theorem ix_tup : IxR X (rIxT X.K) := by
  intro value slice pins s σ H x y v u Q I rx ry h hs
  obtain ⟨p, xs, i, z, rfl, rfl, hq, he, q⟩ := h
  cases rx
  obtain ⟨t, rfl⟩ := ry
  obtain ⟨its, r, pl, hz⟩ := I.tuple hq
  obtain ⟨j, h1, h2, h3, h4, h5⟩ := atI_get he
  obtain ⟨w, ew, rw'⟩ := r.get h2
  have hl := r.length
  have hn := line63
  have fin : EP X pins σ Q w s := ⟨z, H, I, rw', q⟩
  exact subscriptTail_builtinR (x := w) pl.typeIs slot_tuple_getitem.lookup
    (getItem_tuple (j := j) (Q := fun r s' => r = w ∧ EP X pins σ Q r s') pl (by omega) (by omega) (by rw [List.size_toArray, ← hl]; exact h1) (by simpa using ew) ⟨rfl, fin⟩) hs
theorem ix_str : IxR X rIxS := by
  intro value slice pins s σ H x y v u Q I rx ry h hs
  obtain ⟨z, i, c, rfl, rfl, hz, he, q⟩ := h
  obtain ⟨t, rfl⟩ := rx
  obtain ⟨t', rfl⟩ := ry
  obtain ⟨j, h1, h2, h3, h4, h5⟩ := atI_get he
  have hl : z.cps.toList.length = z.length := by simp [Str.length]
  rw [hl] at h1 h4 h5
  have hn := line63
  exact tail_any (typeIs_str s z t) slot_str_getitem.lookup (getItem_str (c := c) (by
    have e1 : decide (i < -(2 ^ 63 : Int)) = false := decide_eq_false (by omega)
    have e2 : decide (i ≥ 2 ^ 63) = false := decide_eq_false (by omega)
    rw [e1, e2, Bool.or_false]) (by rw [h1]; simpa using h2) ⟨.str ⟨#[c]⟩, H, I.tok _, ⟨_, rfl⟩, q⟩) hs
def rIx (K : PySem.W.Frag) : R2 := fun x y H Q => rIxL K x y H Q ∨ rIxT K x y H Q ∨ rIxS x y H Q
theorem ix_seq : IxR X (rIx X.K) := ix_list.or (ix_tup.or ix_str)

def rSetL : V → V → V → Hp → (Hp → Prop) → Prop := fun o i v H Q => ∃ p xs k j, o = .ref p ∧ i = .int k ∧ H p = some (.lst xs) ∧ ixN xs.length k = some j ∧ Q (upd H p (.lst (xs.set j v)))
theorem slice_bounds (lo hi : Option Int) (n : Nat) : (sliceBounds lo hi none n).1 = ((HT.sIx n 0 lo : Nat) : Int) ∧ (sliceBounds lo hi none n).2.1 = ((HT.sIx n n hi : Nat) : Int) ∧ (sliceBounds lo hi none n).2.2 = 1 := by
  refine ⟨?_, ?_, rfl⟩
  · cases lo with
    | none => simp [sliceBounds, HT.sIx]
    | some i =>
      simp only [sliceBounds, HT.sIx, Option.getD_none, show (1 : Int) > 0 by decide, if_true]
      by_cases h : i < 0
      · simp only [h, if_true] <;> omega
      · simp only [h, if_false] <;> omega
  · cases hi with
    | none => simp [sliceBounds, HT.sIx]
    | some i =>
      simp only [sliceBounds, HT.sIx, Option.getD_none, show (1 : Int) > 0 by decide, if_true]
      by_cases h : i < 0
      · simp only [h, if_true] <;> omega
      · simp only [h, if_false] <;> omega
theorem slicePick_cut (its : List Value) (lo hi : Option Int) : slicePick its.toArray lo hi none = ((its.drop (HT.sIx its.length 0 lo)).take (HT.sIx its.length its.length hi - HT.sIx its.length 0 lo)).toArray := by
  obtain ⟨h1, h2, h3⟩ := slice_bounds lo hi its.toArray.size
  unfold slicePick
  rw [h1, h2, h3]
  simp only [sliceRange_one, pick_run, List.size_toArray] <;> rfl
def rSlL (K : PySem.W.Frag) : V → Option Int → Option Int → Hp → VK → Prop := fun x lo hi H Q => ∃ a xs, x = .ref a ∧ SqL K H a xs ∧ ∀ p, H p = none → Q (.ref p) (upd H p (.lst (cutV xs lo hi)))
theorem sl_list : SlR X (rSlL X.K) := by
  intro pins s σ H x v vl vu lo hi sl Q I rx hs pl pu h
  obtain ⟨a, xs, rfl, hx, q⟩ := h
  cases rx
  obtain ⟨its, r, ht, hz⟩ := I.list hx
  have hlen := r.length
  refine ⟨"list", _, slot_list_getitem.lookup, ht.isList.typeIs, ?_⟩
  refine wpAny_getItem_list_slice ht.isList hs pl pu .none (by simp) ?_ (by rw [List.size_toArray] <;> omega)
  rw [slicePick_cut, ← hlen]
  refine ⟨.ref s.heap.objs.size, _, I.laid (t' := s.toks) (o := .lst (cutV xs lo hi)) (fun b ob q => Heap.get?_push_of_some _ q) (Nat.le_refl _) ?_, rfl, q _ (I.hok.fresh (Nat.le_refl _))⟩
  exact ⟨Nat.le_trans (cutV_length xs lo hi) hz, _, 0, (r.drop (HT.sIx xs.length 0 lo)).take (HT.sIx xs.length xs.length hi - HT.sIx xs.length 0 lo), Heap.get?_push_size _ rfl⟩

def flatV : V → Bool
  | .non => true
  | .bl _ => true
  | .int _ => true
  | .str _ => true
  | _ => false
def eqV : V → V → Bool
  | .non, .non => true
  | .bl a, .bl b => a == b
  | .bl a, .int b => (if a then 1 else 0) == b
  | .int a, .bl b => a == (if b then 1 else 0)
  | .int a, .int b => a == b
  | .str a, .str b => a == b
  | _, _ => false
theorem eqAt_V {A : Around} {s : Shared} {y x : V} {u v : Value} (ry : RelV y u) (rx : RelV x v) (fy : flatV y = true) (fx : flatV x = true) : SeqAt.EqAt A s u v (eqV y x) := by
  cases y with
  | non =>
    cases ry
    cases x with
    | non => cases rx; exact SeqAt.EqAt.same _
    | bl b => cases rx; exact SeqAt.EqAt.none_bool b
    | int b => obtain ⟨t, rfl⟩ := rx; exact SeqAt.EqAt.none_int b t
    | str b => obtain ⟨t, rfl⟩ := rx; exact SeqAt.EqAt.none_str b t
    | _ => exact absurd (show false = true from fx) Bool.false_ne_true
  | bl a =>
    cases ry
    cases x with
    | non => cases rx; exact SeqAt.EqAt.bool_none a
    | bl b => cases rx; exact SeqAt.EqAt.bool_bool a b
    | int b => obtain ⟨t, rfl⟩ := rx; exact SeqAt.EqAt.bool_int a b t
    | str b => obtain ⟨t, rfl⟩ := rx; exact SeqAt.EqAt.bool_str a b t
    | _ => exact absurd (show false = true from fx) Bool.false_ne_true
  | int a =>
    obtain ⟨t', rfl⟩ := ry
    cases x with
    | non => cases rx; exact SeqAt.EqAt.int_none a t'
    | bl b => cases rx; exact SeqAt.EqAt.int_bool a t' b
    | int b => obtain ⟨t, rfl⟩ := rx; exact SeqAt.EqAt.int_int a t' b t
    | str b => obtain ⟨t, rfl⟩ := rx; exact SeqAt.EqAt.int_str a t' b t
    | _ => exact absurd (show false = true from fx) Bool.false_ne_true
  | str a =>
    obtain ⟨t', rfl⟩ := ry
    cases x with
    | non => cases rx; exact SeqAt.EqAt.str_none a t'
    | bl b => cases rx; exact SeqAt.EqAt.str_bool a t' b
    | int b => obtain ⟨t, rfl⟩ := rx; exact SeqAt.EqAt.str_int a t' b t
    | str b => obtain ⟨t, rfl⟩ := rx; exact SeqAt.EqAt.str_str a t' b t
    | _ => exact absurd (show false = true from fx) Bool.false_ne_true
  | _ => exact absurd (show false = true from fy) Bool.false_ne_true
def eqU (x : V) (u : Value) : Bool := match u with
  | .none => eqV .non x
  | .bool b => eqV (.bl b) x
  | .int i _ => eqV (.int i) x
  | .str z _ => eqV (.str z) x
  | _ => false
theorem eqU_of {x y : V} {u : Value} (r : RelV y u) (f : flatV y = true) : eqU x u = eqV y x := by
  cases y with
  | non => cases r; rfl
  | bl b => cases r; rfl
  | int i => obtain ⟨t, rfl⟩ := r; rfl
  | str z => obtain ⟨t, rfl⟩ := r; rfl
  | _ => exact absurd (show false = true from f) Bool.false_ne_true
theorem any_eqU {x : V} : ∀ {xs : List V} {us : List Value}, Vals xs us → xs.all flatV = true → us.any (eqU x) = xs.any fun y => eqV y x
  | _, _, .nil, _ => rfl
  | y :: xs, u :: us, .cons r t, f => by
    rw [List.all_cons, Bool.and_eq_true] at f
    rw [List.any_cons, List.any_cons, eqU_of r f.1, any_eqU t f.2]
theorem mem_eqAt {A : Around} {s : Shared} {x : V} {v : Value} (rx : RelV x v) (fx : flatV x = true) : ∀ {xs : List V} {us : List Value}, Vals xs us → xs.all flatV = true → ∀ u ∈ us, SeqAt.EqAt A s u v (eqU x u)
  | _, _, .nil, _ => fun u hu => by cases hu
  | y :: xs, u :: us, .cons r t, f => fun u' hu => by
    rw [List.all_cons, Bool.and_eq_true] at f
    rcases List.mem_cons.mp hu with rfl | hu
    · rw [eqU_of r f.1]; exact eqAt_V r rx f.1 fx
    · exact mem_eqAt rx fx t f.2 u' hu
def inV (x : V) (xs : List V) : Bool := xs.any fun y => eqV y x
def rIn (K : PySem.W.Frag) (neg : Bool) : R2 := fun x y H Q => ∃ p xs, y = .ref p ∧ (SqL K H p xs ∨ SqT K H p xs) ∧ flatV x = true ∧ xs.all flatV = true ∧ Q (.bl (if neg then !inV x xs else inV x xs)) H
theorem op_in_seq : OpR X (compareOp .In) (rIn X.K false) := by
  intro pins s σ H x y v u Q I rx ry h
  obtain ⟨p, xs, rfl, hq, fx, fs, q⟩ := h
  cases ry
  rcases hq with hq | hq
  · obtain ⟨its, r, pl, hz⟩ := I.list hq
    refine SeqAt.in_listAt (eqU x) pl.isList (fun w hw => mem_eqAt rx fx r fs w (by simpa using hw)) ⟨.bl _, H, I, rfl, ?_⟩
    rw [show its.toArray.any (eqU x) = its.any (eqU x) by simp, any_eqU r fs]
    exact q
  · obtain ⟨its, r, pl, hz⟩ := I.tuple hq
    refine SeqAt.in_tupleAt (eqU x) pl (fun w hw => mem_eqAt rx fx r fs w (by simpa using hw)) ⟨.bl _, H, I, rfl, ?_⟩
    rw [show its.toArray.any (eqU x) = its.any (eqU x) by simp, any_eqU r fs]
    exact q
theorem op_notIn_seq : OpR X (compareOp .NotIn) (rIn X.K true) := by
  intro pins s σ H x y v u Q I rx ry h
  obtain ⟨p, xs, rfl, hq, fx, fs, q⟩ := h
  cases ry
  rcases hq with hq | hq
  · obtain ⟨its, r, pl, hz⟩ := I.list hq
    refine SeqAt.notIn_listAt (eqU x) pl.isList (fun w hw => mem_eqAt rx fx r fs w (by simpa using hw)) ⟨.bl _, H, I, rfl, ?_⟩
    rw [show its.toArray.any (eqU x) = its.any (eqU x) by simp, any_eqU r fs]
    exact q
  · obtain ⟨its, r, pl, hz⟩ := I.tuple hq
    refine SeqAt.notIn_tupleAt (eqU x) pl (fun w hw => mem_eqAt rx fx r fs w (by simpa using hw)) ⟨.bl _, H, I, rfl, ?_⟩
    rw [show its.toArray.any (eqU x) = its.any (eqU x) by simp, any_eqU r fs]
    exact q
theorem call_len_seq : CallR X (.builtin "len") (fun xs H Q => ∃ p ys, xs = [.ref p] ∧ (SqL X.K H p ys ∨ SqT X.K H p ys) ∧ Q (.int ys.length) H) := by
  intro pins s σ H xs us Q I r h
  obtain ⟨p, ys, rfl, hq, q⟩ := h
  obtain ⟨u, rfl, rx⟩ := vals1 r
  cases rx
  have hn := line63
  rcases hq with hq | hq
  · obtain ⟨its, r', pl, hz⟩ := I.list hq
    have hlen := r'.length
    exact Calls.call_len_list pl.isList (by simp only [List.size_toArray] <;> omega) ⟨.int ys.length, H, I.tok _, ⟨s.toks + 1, by rw [List.size_toArray, hlen]⟩, q⟩
  · obtain ⟨its, r', pl, hz⟩ := I.tuple hq
    have hlen := r'.length
    exact len_tuple pl (by simp only [List.size_toArray] <;> omega) ⟨.int ys.length, H, I.tok _, ⟨s.toks + 1, by rw [List.size_toArray, hlen]⟩, q⟩
theorem call_len_str : CallR X (.builtin "len") (fun xs H Q => ∃ z, xs = [.str z] ∧ z.length ≤ sizeLine ∧ Q (.int z.length) H) := by
  intro pins s σ H xs us Q I r h
  obtain ⟨z, rfl, hz, q⟩ := h
  obtain ⟨u, rfl, t, rfl⟩ := vals1 r
  have hn := line63
  exact len_str (by omega) ⟨.int z.length, H, I.tok _, ⟨_, rfl⟩, q⟩
def tyV (K : PySem.W.Frag) (T : String) (x : V) (H : Hp) : Prop := match x with
  | .str _ => T = "str"
  | .int _ => T = "int"
  | .ref p => (T = "list" ∧ ∃ xs, SqL K H p xs) ∨ (T = "tuple" ∧ ∃ o, K.lookup p = some o ∧ o.cls = .type "tuple" ∧ o.dict = none) ∨
      (T = "dict" ∧ ((∃ kvs, H p = some (.dK kvs)) ∨ ∃ kvs, H p = some (.dT kvs))) ∨ (T = "set" ∧ ∃ S n, H p = some (.set S n))
  | _ => False
theorem tyV_is {pins : List (Addr × Obj)} {σ : St} {H : Hp} {s : Shared} {T : String} {x : V} {v : Value} (I : Inv X pins σ H s) (r : RelV x v) (ty : tyV X.K T x H) :
    s.TypeIs v T ∧ ∀ a, v = .ref a → ∃ ob, s.heap.get? a = some ob ∧ ob.dict = none := by
  cases x with
  | str z =>
    obtain ⟨t, rfl⟩ := r
    cases (show T = "str" from ty)
    exact ⟨typeIs_str s z t, fun _ e => nomatch e⟩
  | int i =>
    obtain ⟨t, rfl⟩ := r
    cases (show T = "int" from ty)
    exact ⟨typeIs_int s i t, fun _ e => nomatch e⟩
  | ref p =>
    cases r
    rcases ty with ⟨rfl, xs, hq⟩ | ⟨rfl, o, hk, hc, hd⟩ | ⟨rfl, hk⟩ | ⟨rfl, S, n, hk⟩
    · obtain ⟨its, _, pl, _⟩ := I.list hq
      refine ⟨pl.isList.typeIs, fun a e => ?_⟩
      cases e
      obtain ⟨o, n, e, c, hd, _⟩ := pl
      exact ⟨o, e, hd⟩
    · refine ⟨⟨o, I.kIn p o hk, hc⟩, fun a e => ?_⟩
      cases e
      exact ⟨o, I.kIn _ o hk, hd⟩
    · have z : ∃ o, s.heap.get? p = some o ∧ o.ExactDict := by
        rcases hk with ⟨kvs, hk⟩ | ⟨kvs, hk⟩
        · obtain ⟨_, _, _, _, o, _, _, e, ex, _⟩ := I.hok p _ hk
          exact ⟨o, e, ex⟩
        · obtain ⟨_, _, _, _, o, _, _, e, ex, _⟩ := I.hok p _ hk
          exact ⟨o, e, ex⟩
      obtain ⟨o, e, ex⟩ := z
      refine ⟨⟨o, e, ex.1⟩, fun a e2 => ?_⟩
      cases e2
      exact ⟨o, e, ex.2.1⟩
    · obtain ⟨o, _, _, _, e, ex, _⟩ := I.hok p _ hk
      refine ⟨⟨o, e, ex.1⟩, fun a e2 => ?_⟩
      cases e2
      exact ⟨o, e, ex.2.1⟩
  | _ => exact False.elim ty
def tBM0 (K : PySem.W.Frag) (T : String) (r : V → List V → Hp → VK → Prop) (to : TE) : TE := fun σ H Q => to σ H fun x H1 => tyV K T x H1 ∧ r x [] H1 Q
def tBM (K : PySem.W.Frag) (T : String) (r : V → List V → Hp → VK → Prop) (to : TE) (t : TA) : TE := fun σ H Q => to σ H fun x H1 => tyV K T x H1 ∧ t σ H1 fun xs H2 => r x xs H2 Q
variable {o e : Expr} {es : List Expr} {to : TE} {t : TA} {name : Str} {apos cpos : Pos} {T id : String} {r : V → List V → Hp → VK → Prop}
theorem pe_bm (pa : PlainAttrs T) (slot : Slot T name id) (hty : typeOf (.builtin id) = pure (.type "method_descriptor")) (hm : MtR X id r) (ho : PE X o to) (ha : PA X (e :: es) t)
    (hbase : attributeBase o name X.env (eval o X.env) = eval o X.env := by rfl)
    (hfew : ((backTo cpos (starEach (e :: es) X.env)).all (fun x => !x.1) && (backToKw cpos (keywordEach [] X.env)).all (fun x => x.1.isSome)
      && decide ((e :: es).length + ([] : List Keyword).length + (if ([] : List Keyword).isEmpty then 0 else 1) < 30)) = true := by rfl)
    (hline : (apos.endLine == cpos.line) = true := by rfl) (hs : starEach (e :: es) X.env = (false, eval e X.env) :: starEach es X.env := by rfl) (hplain : (backTo cpos (starEach es X.env)).any (·.1) = false := by rfl) :
    PE X (.Call (.Attribute o name apos) (e :: es) [] cpos) (tBM X.K T r to t) := by
  intro pins s σ H Q I h
  refine wpAny_Call_method_late hbase hfew hline rfl (thn (ho pins s σ H _ I h) fun v s1 ⟨x, H1, I1, r1, ty, q1⟩ => ?_)
  obtain ⟨h1, h2⟩ := tyV_is I1 r1 ty
  refine ⟨T, id, pa, slot, hty, h1, h2, ?_⟩
  have hA := ha cpos pins s1 σ H1 _ I1 q1
  rw [hs] at hA ⊢
  refine Calls.callWith_builtin (by show (false || (backTo cpos (starEach es X.env)).any (·.1)) = false; rw [hplain] <;> rfl) (Calls.evalArgs_plain ?_)
  exact thn hA fun us s2 ⟨vs, H2, I2, r2, q2⟩ => hm pins s2 σ H2 x vs v us Q I2 r1 r2 q2
/- xs.append(e), list.index on a module's tuple .. are MtR facts of 06m -/
end
end L2

namespace L2
open PySem PySem.Spec PyProof.Rows

def MtM (X : Cx) (id : String) (r : V → List V → Hp → VK → Prop) : Prop :=
  ∀ (pins : List (Addr × Obj)) (s : Shared) (σ : St) (H : Hp) (x : V) (xs : List V) (v : Value) (us : List Value) (Q : VK), Inv X pins σ H s → RelV x v → Vals xs us → r x xs H Q →
    wpAny (model X.prog X.w) X.A (call (.builtin id) (v :: us)) (EP X pins σ Q) X.xe s

theorem Vals.one : ∀ {x : V} {us : List Value}, Vals [x] us → ∃ u, us = [u] ∧ RelV x u
  | _, _, .cons r .nil => ⟨_, rfl, r⟩
section
variable {X : Cx} {pins : List (Addr × Obj)} {σ : St} {H : Hp} {s : Shared} {l b : Addr} {xs ys zs : List V}

theorem Inv.lset {its its' : List Value} {n : Nat} {f : Array Value → Array Value} {t' : Nat} (I : Inv X pins σ H s) (hH : H l = some (.lst xs))
    (e : s.heap.get? l = some { cls := .type "list", data := .seq its.toArray n }) (hf : f its.toArray = its'.toArray) (hv : Vals ys its') (hz : ys.length ≤ sizeLine) :
    Inv X pins σ (upd H l (.lst ys)) { s with heap := s.heap.update l (Obj.mapSeq f), toks := t' } := by
  have q := PySem.IsL.update e f
  rw [hf] at q
  refine I.write (x := l) (e := l) (by rw [hH]; exact trivial) (.inl rfl) (fun b' u hb hu => (Heap.get?_update_other s.heap (Obj.mapSeq f) (Ne.symm hb)).trans hu) ⟨_, q⟩ ?_
  exact ⟨hz, its', _, hv, q⟩
theorem Inv.lstM (I : Inv X pins σ H s) (hH : H l = some (.lst xs)) : xs.length ≤ sizeLine ∧ ∃ (its : List Value) (n : Nat), Vals xs its ∧ xs.length = its.length ∧ s.heap.get? l = some { cls := .type "list", data := .seq its.toArray n } := by
  obtain ⟨z, its, n, r, e⟩ := I.hok l _ hH
  exact ⟨z, its, n, r, r.length, e⟩

end

section
variable {X : Cx}

def rAppend : V → List V → Hp → VK → Prop := fun x vs H Q => ∃ l xs y, x = .ref l ∧ vs = [y] ∧ H l = some (.lst xs) ∧ xs.length < sizeLine ∧ Q .non (upd H l (.lst (xs ++ [y])))
theorem mt_append : MtM X "list.append" rAppend := by
  intro pins s σ H x vs v us Q I rx rv h
  obtain ⟨l, xs, y, rfl, rfl, hH, hz, q⟩ := h
  cases rx
  obtain ⟨u, rfl, ru⟩ := rv.one
  obtain ⟨z, its, n, r, hl, e⟩ := I.lstM hH
  refine call_meets F.slot_list_append ⟨_, e, rfl⟩ F.entry_list_append (F.args_list_append_2 _ _) (PySem.list_append l its.toArray n u (by rw [List.size_toArray]; omega)) ⟨e, ?_⟩
  refine ⟨.non, _, I.lset (its' := its ++ [u]) hH e (by simp) (r.append (.cons ru .nil)) ?_, rfl, q⟩
  rw [List.length_append, List.length_singleton]
  omega

def rExtend : V → List V → Hp → VK → Prop := fun x vs H Q => ∃ l b xs zs, x = .ref l ∧ vs = [.ref b] ∧ H l = some (.lst xs) ∧ H b = some (.lst zs) ∧ xs.length + zs.length ≤ sizeLine ∧ Q .non (upd H l (.lst (xs ++ zs)))
def rPop : V → List V → Hp → VK → Prop := fun x vs H Q => ∃ l xs y, x = .ref l ∧ vs = [] ∧ H l = some (.lst xs) ∧ xs[xs.length - 1]? = some y ∧ Q y (upd H l (.lst xs.dropLast))
def rPopAt : V → List V → Hp → VK → Prop := fun x vs H Q => ∃ l xs i k y, x = .ref l ∧ vs = [.int i] ∧ H l = some (.lst xs) ∧ -(2 ^ 63) ≤ i ∧ i < 2 ^ 63 ∧ seqIndex? i xs.length = some k ∧ xs[k]? = some y ∧ Q y (upd H l (.lst (xs.eraseIdx k)))
def rReverse : V → List V → Hp → VK → Prop := fun x vs H Q => ∃ l xs, x = .ref l ∧ vs = [] ∧ H l = some (.lst xs) ∧ Q .non (upd H l (.lst xs.reverse))
def rClear : V → List V → Hp → VK → Prop := fun x vs H Q => ∃ l xs, x = .ref l ∧ vs = [] ∧ H l = some (.lst xs) ∧ Q .non (upd H l (.lst []))
def rCat : R2 := fun x y H Q => ∃ l b xs zs, x = .ref l ∧ y = .ref b ∧ H l = some (.lst xs) ∧ H b = some (.lst zs) ∧ xs.length + zs.length ≤ sizeLine ∧ ∀ p, H p = none → Q (.ref p) (upd H p (.lst (xs ++ zs)))
def rRep : R2 := fun x y H Q => ∃ l k xs, x = .ref l ∧ y = .int k ∧ H l = some (.lst xs) ∧ -(2 ^ 63) ≤ k ∧ k < 2 ^ 63 ∧ xs.length * k.toNat ≤ sizeLine ∧
  ∀ p, H p = none → Q (.ref p) (upd H p (.lst (List.replicate k.toNat xs).flatten))
end

section
variable {prog : Program} {w : World} {A : Around} {E : Value → Shared → Prop} {s : Shared}
set_option maxRecDepth 100000 in
end

section
variable {X : Cx}
end
end L2

namespace L2
open PySem PySem.Spec PyProof.Rows

section
variable {κ : Type} [DecidableEq κ]
def valV (kvs : List (κ × V)) (k : κ) : Option V := (kvs.find? fun kv => decide (kv.1 = k)).map (·.2)
def putK (kvs : List (κ × V)) (k : κ) (v : V) : List (κ × V) :=
  if (kvs.any fun kv => decide (kv.1 = k)) = true then kvs.map (fun kv => if kv.1 = k then (kv.1, v) else kv) else kvs ++ [(k, v)]
def dropK (kvs : List (κ × V)) (k : κ) : List (κ × V) := kvs.filter fun kv => decide (kv.1 ≠ k)

theorem valV_pos {p : κ × V} {r : List (κ × V)} {k : κ} (e : p.1 = k) : valV (p :: r) k = some p.2 := by simp [valV, List.find?_cons, e]
theorem valV_neg {p : κ × V} {r : List (κ × V)} {k : κ} (e : ¬ p.1 = k) : valV (p :: r) k = valV r k := by simp [valV, List.find?_cons, e]
theorem valV_any (k : κ) : ∀ kvs : List (κ × V), (kvs.any fun kv => decide (kv.1 = k)) = (valV kvs k).isSome
  | [] => rfl
  | p :: r => by
    rw [List.any_cons]
    by_cases e : p.1 = k
    · simp only [valV_pos e, decide_eq_true e, Bool.true_or, Option.isSome_some]
    · rw [valV_neg e, decide_eq_false e, Bool.false_or]; exact valV_any k r
theorem length_putK (kvs : List (κ × V)) (k : κ) (v : V) : (putK kvs k v).length ≤ kvs.length + 1 := by
  unfold putK
  split
  · rw [List.length_map]; omega
  · rw [List.length_append, List.length_cons, List.length_nil]; omega
theorem RelO.isSome_eq {o : Option V} {u : Option Value} (r : RelO o u) : o.isSome = u.isSome := by
  cases o with
  | none => cases u with
    | none => rfl
    | some _ => exact (show False from r).elim
  | some _ => cases u with
    | none => exact (show False from r).elim
    | some _ => rfl
theorem KV.val {kvs : List (κ × V)} {vs : List (κ × Value)} (r : KV kvs vs) (k : κ) : RelO (valV kvs k) (valueAt vs k) := by
  unfold KV at r
  induction r with
  | nil => exact True.intro
  | @cons p q ps qs h t ih =>
    obtain ⟨h1, h2⟩ := h
    by_cases e : p.1 = k
    · have e' : q.1 = k := h1.symm.trans e
      have b : valueAt (q :: qs) k = some q.2 := by simp [valueAt, List.find?_cons, e']
      rw [valV_pos e, b]; exact h2
    · have e' : ¬ q.1 = k := fun z => e (h1.trans z)
      have b : valueAt (q :: qs) k = valueAt qs k := by simp [valueAt, List.find?_cons, e']
      rw [valV_neg e, b]; exact ih
theorem KV.any {kvs : List (κ × V)} {vs : List (κ × Value)} (r : KV kvs vs) (k : κ) : (kvs.any fun kv => decide (kv.1 = k)) = vs.any fun kv => decide (kv.1 = k) := by
  unfold KV at r
  induction r with
  | nil => rfl
  | cons h t ih => rw [List.any_cons, List.any_cons, ih, h.1]
theorem KV.repl {kvs : List (κ × V)} {vs : List (κ × Value)} (r : KV kvs vs) (k : κ) {y : V} {u : Value} (ry : RelV y u) :
    KV (kvs.map fun kv => if kv.1 = k then (kv.1, y) else kv) (vs.map fun kv => if kv.1 = k then (kv.1, u) else kv) := by
  unfold KV at r ⊢
  induction r with
  | nil => exact .nil
  | @cons p q ps qs h t ih =>
    rw [List.map_cons, List.map_cons]
    refine .cons ?_ ih
    obtain ⟨h1, h2⟩ := h
    by_cases e : p.1 = k
    · rw [if_pos e, if_pos (h1.symm.trans e)]; exact ⟨h1, ry⟩
    · rw [if_neg e, if_neg (fun z => e (h1.trans z))]; exact ⟨h1, h2⟩
theorem KV.put {kvs : List (κ × V)} {vs : List (κ × Value)} (r : KV kvs vs) (k : κ) {y : V} {u : Value} (ry : RelV y u) : KV (putK kvs k y) (stored vs k u) := by
  unfold putK stored
  rw [r.any k]
  by_cases e : (vs.any fun kv => decide (kv.1 = k)) = true
  · rw [if_pos e, if_pos e]; exact r.repl k ry
  · rw [if_neg e, if_neg e]; exact Paired.snoc r ⟨rfl, ry⟩
theorem KV.drop {kvs : List (κ × V)} {vs : List (κ × Value)} (r : KV kvs vs) (k : κ) : KV (dropK kvs k) (without vs k) := by
  unfold KV at r ⊢
  unfold dropK without
  induction r with
  | nil => exact .nil
  | @cons p q ps qs h t ih =>
    obtain ⟨h1, h2⟩ := h
    rw [List.filter_cons, List.filter_cons]
    by_cases e : p.1 = k
    · have a : ¬ decide (p.1 ≠ k) = true := by simp [e]
      have b : ¬ decide (q.1 ≠ k) = true := by simp [h1.symm.trans e]
      rw [if_neg a, if_neg b]; exact ih
    · have e' : ¬ q.1 = k := fun z => e (h1.trans z)
      have a : decide (p.1 ≠ k) = true := by simp [e]
      have b : decide (q.1 ≠ k) = true := by simp [e']
      rw [if_pos a, if_pos b]; exact .cons ⟨h1, h2⟩ ih
theorem KV.length {kvs : List (κ × V)} {vs : List (κ × Value)} (r : KV kvs vs) : kvs.length = vs.length := Paired.length r
theorem dropK_le (kvs : List (κ × V)) (k : κ) : (dropK kvs k).length ≤ kvs.length := List.length_filter_le _ _
end


theorem kV_is {P : Program} {w : World} {k : Key} {u : Value} (r : RelV (kV k) u) : (mixKind P w).is k u = true := by
  cases k with
  | inl i => obtain ⟨t, e⟩ := (show ∃ t, u = Value.int i t from r); subst e; exact mixKind_int P w i t
  | inr x => obtain ⟨t, e⟩ := (show ∃ t, u = Value.str x t from r); subst e; exact mixKind_str P w x t
theorem items_are {P : Program} {w : World} : ∀ {ks : List Key} {us : List Value}, Vals (ks.map kV) us → ItemsAre (mixKind P w) ks us
  | [], _, r => by rw [List.map_nil] at r; cases r; exact .nil
  | k :: ks, _, r => by
    rw [List.map_cons] at r
    cases r with
    | cons h t => exact .cons (kV_is h) (items_are t)

abbrev KT (H : Hp) : List (List Key × V) → List (List Key × Addr × Value) → Prop := Paired fun p q => p.1 = q.1 ∧ H q.2.1 = some (.tup (p.1.map kV)) ∧ RelV p.2 q.2.2
theorem KT.val {H : Hp} {kvs : List (List Key × V)} {xs : List (List Key × Addr × Value)} (r : KT H kvs xs) (k : List Key) : RelO (valV kvs k) ((atKey xs k).map (·.2)) := by
  induction r with
  | nil => exact True.intro
  | @cons p q ps qs h t ih =>
    obtain ⟨h1, _, h2⟩ := h
    by_cases e : p.1 = k
    · have e' : q.1 = k := h1.symm.trans e
      have b : atKey (q :: qs) k = some q.2 := by simp [atKey, List.find?_cons, e']
      rw [valV_pos e, b]; exact h2
    · have e' : ¬ q.1 = k := fun z => e (h1.trans z)
      have b : atKey (q :: qs) k = atKey qs k := by simp [atKey, List.find?_cons, e']
      rw [valV_neg e, b]; exact ih
theorem KT.repl {H : Hp} {kvs : List (List Key × V)} {xs : List (List Key × Addr × Value)} (r : KT H kvs xs) (k : List Key) {y : V} {u : Value} (ry : RelV y u) :
    KT H (kvs.map fun kv => if kv.1 = k then (kv.1, y) else kv) (xs.map (putAt k u)) := by
  induction r with
  | nil => exact .nil
  | @cons p q ps qs h t ih =>
    rw [List.map_cons, List.map_cons]
    refine .cons ?_ ih
    obtain ⟨h1, h2, h3⟩ := h
    unfold putAt
    by_cases e : p.1 = k
    · rw [if_pos e, if_pos (h1.symm.trans e)]; exact ⟨h1, h2, ry⟩
    · rw [if_neg e, if_neg (fun z => e (h1.trans z))]; exact ⟨h1, h2, h3⟩
theorem KT.put {H : Hp} {kvs : List (List Key × V)} {xs : List (List Key × Addr × Value)} (r : KT H kvs xs) (k : List Key) {b : Addr} {y : V} {u : Value} (hb : H b = some (.tup (k.map kV))) (ry : RelV y u) :
    KT H (putK kvs k y) (storedH xs k b u) := by
  have e : (kvs.any fun kv => decide (kv.1 = k)) = (atKey xs k).isSome := by
    rw [valV_any, (r.val k).isSome_eq, Option.isSome_map]
  unfold putK storedH
  rw [e]
  by_cases q : (atKey xs k).isSome = true
  · rw [if_pos q, if_pos q]; exact r.repl k ry
  · rw [if_neg q, if_neg q]; exact Paired.snoc r ⟨rfl, hb, ry⟩
theorem KT.keeps {H H' : Hp} {kvs : List (List Key × V)} {xs : List (List Key × Addr × Value)} (r : KT H kvs xs) (ht : ∀ b ys, H b = some (.tup ys) → H' b = some (.tup ys)) : KT H' kvs xs :=
  Paired.mapP r fun _ _ z => ⟨z.1, ht _ _ z.2.1, z.2.2⟩

section
variable {P : Program} {w : World} {H : Hp} {h : Heap} {a : Addr}
theorem rd_of {u : HO} (ok : HOk P w H h) (e : Rd H a u) : ObjOk P w H h a u := e.ok ok
theorem dk_rd {kvs : List (Key × V)} (ok : HOk P w H h) (e : Rd H a (.dK kvs)) : kvs.length ≤ sizeLine ∧ (a == sysModules) = false ∧ ∃ vs, KV kvs vs ∧ h.DictOf (mixKind P w) a vs :=
  show ObjOk P w H h a (.dK kvs) from rd_of ok e
theorem dk_of {kvs : List (Key × V)} (ok : HOk P w H h) (e : H a = some (.dK kvs)) : kvs.length ≤ sizeLine ∧ (a == sysModules) = false ∧ ∃ vs, KV kvs vs ∧ h.DictOf (mixKind P w) a vs := dk_rd ok (.inl e)
theorem key_of {ks : List Key} (ok : HOk P w H h) (e : H a = some (.tup (ks.map kV))) : (tupleKind (mixKind P w)).is h ks a := by
  obtain ⟨_, its, r, o, h1, h2, n, h3⟩ := (show ObjOk P w H h a (.tup (ks.map kV)) from ok a _ e)
  exact ⟨o, its.toArray, n, h1, h2, h3, by simpa using items_are r⟩
theorem dt_rd {kvs : List (List Key × V)} (ok : HOk P w H h) (e : Rd H a (.dT kvs)) : kvs.length ≤ sizeLine ∧ (a == sysModules) = false ∧
    ∃ xs, KT H kvs xs ∧ h.DictOfH (tupleKind (mixKind P w)) a xs := by
  obtain ⟨z, y, xs, r, o, es, ep, h1, h2, h3, h4, h5⟩ := (show ObjOk P w H h a (.dT kvs) from rd_of ok e)
  refine ⟨z, y, xs, r, o, es, ep, h1, h2, h3, h4, fun x hx => ?_, h5⟩
  have all : ∀ {l : List (List Key × V)} {m : List (List Key × Addr × Value)}, KT H l m → ∀ x ∈ m, (tupleKind (mixKind P w)).is h x.1 x.2.1 := by
    intro l m q
    induction q with
    | nil => intro x hx; exact nomatch hx
    | @cons p q ps qs hq t ih =>
      intro x hx
      rcases List.mem_cons.mp hx with e | hx
      · subst e
        exact key_of ok (by rw [← hq.1]; exact hq.2.1)
      · exact ih x hx
  exact all r x hx
theorem dt_of {kvs : List (List Key × V)} (ok : HOk P w H h) (e : H a = some (.dT kvs)) : kvs.length ≤ sizeLine ∧ (a == sysModules) = false ∧
    ∃ xs, KT H kvs xs ∧ h.DictOfH (tupleKind (mixKind P w)) a xs := dt_rd ok (.inl e)
end

def DGet (H : Hp) (a : Addr) (y : V) (r : Option V) : Prop :=
  (∃ kvs k, Rd H a (.dK kvs) ∧ y = kV k ∧ r = valV kvs k) ∨ ∃ kvs k b, Rd H a (.dT kvs) ∧ y = .ref b ∧ H b = some (.tup (k.map kV)) ∧ r = valV kvs k
def DPut (H : Hp) (a : Addr) (y v : V) (H' : Hp) : Prop :=
  (∃ kvs k, H a = some (.dK kvs) ∧ y = kV k ∧ kvs.length < sizeLine ∧ H' = upd H a (.dK (putK kvs k v))) ∨
  ∃ kvs k b, H a = some (.dT kvs) ∧ y = .ref b ∧ H b = some (.tup (k.map kV)) ∧ kvs.length < sizeLine ∧ H' = upd H a (.dT (putK kvs k v))
theorem DPut.k {H : Hp} {a : Addr} {kvs : List (Key × V)} {k : Key} {v : V} (e : H a = some (.dK kvs)) (hl : kvs.length < sizeLine) : DPut H a (kV k) v (upd H a (.dK (putK kvs k v))) := .inl ⟨kvs, k, e, rfl, hl, rfl⟩
section
variable {X : Cx} {pins : List (Addr × Obj)} {σ : St} {H : Hp} {s : Shared} {a : Addr} {y v : V} {u r : Value} {o : Option V} {A : Around} {E : Value → Shared → Prop}

theorem Inv.big (I : Inv X pins σ H s) : sysModules < s.heap.objs.size := by
  have h : mainGlobals < s.heap.objs.size := (I.mod.glob.keeps I.bk).lt
  exact Nat.lt_trans (by decide) h

theorem d_getItem {Q : Value → Shared → Prop} (hu : A.units + 1 < cLine) (I : Inv X pins σ H s) (g : DGet H a y (some v)) (ry : RelV y u) (h : ∀ w' s', Inv X pins σ H s' → RelV v w' → Q w' s') :
    wpAny (model X.prog X.w) A (getItem (.ref a) u) Q E s := by
  rcases g with ⟨kvs, k, e, ey, l⟩ | ⟨kvs, k, b, e, ey, eb, l⟩
  · subst ey
    obtain ⟨z, hd, vs, rel, dd⟩ := dk_rd I.hok e
    obtain ⟨w', hw, rw'⟩ := RelO.some_of (v := v) (o := valueAt vs k) (by rw [l]; exact rel.val k)
    exact wpAny_getItem_of (kV_is ry) dd.mapOf hw (h w' _ (I.tok _) rw')
  · subst ey
    cases (show u = Value.ref b from ry)
    obtain ⟨z, hd, xs, rel, dd⟩ := dt_rd I.hok e
    obtain ⟨w', hw, rw'⟩ := RelO.some_of (v := v) (o := (atKey xs k).map (·.2)) (by rw [l]; exact rel.val k)
    obtain ⟨p, hp, hp2⟩ := Option.map_eq_some_iff.mp hw
    refine wpAny_getItem_heap (tupleKind_room_in1 hu) (key_of I.hok eb) dd hp ?_
    rw [hp2]
    exact h w' _ (I.tok _) rw'
theorem d_in {Q : Value → Shared → Prop} (hu : A.units + 1 < cLine) (I : Inv X pins σ H s) (g : DGet H a y o) (ry : RelV y u) (h : ∀ s', Inv X pins σ H s' → Q (.bool o.isSome) s') :
    wpAny (model X.prog X.w) A (compareOp .In u (.ref a)) Q E s := by
  rcases g with ⟨kvs, k, e, ey, l⟩ | ⟨kvs, k, b, e, ey, eb, l⟩
  · subst ey
    obtain ⟨z, hd, vs, rel, dd⟩ := dk_rd I.hok e
    refine wpAny_in_of (kV_is ry) hd dd.mapOf ?_
    rw [← (rel.val k).isSome_eq, ← l]
    exact h _ (I.tok _)
  · subst ey
    cases (show u = Value.ref b from ry)
    obtain ⟨z, hd, xs, rel, dd⟩ := dt_rd I.hok e
    refine wpAny_in_heap (tupleKind_room_in1 hu) (key_of I.hok eb) hd dd ?_
    have q := (rel.val k).isSome_eq
    rw [Option.isSome_map] at q
    rw [← q, ← l]
    exact h _ (I.tok _)
theorem d_notIn {Q : Value → Shared → Prop} (hu : A.units + 1 < cLine) (I : Inv X pins σ H s) (g : DGet H a y o) (ry : RelV y u) (h : ∀ s', Inv X pins σ H s' → Q (.bool (!o.isSome)) s') :
    wpAny (model X.prog X.w) A (compareOp .NotIn u (.ref a)) Q E s := by
  rcases g with ⟨kvs, k, e, ey, l⟩ | ⟨kvs, k, b, e, ey, eb, l⟩
  · subst ey
    obtain ⟨z, hd, vs, rel, dd⟩ := dk_rd I.hok e
    refine wpAny_notIn_of (kV_is ry) hd dd.mapOf ?_
    rw [← (rel.val k).isSome_eq, ← l]
    exact h _ (I.tok _)
  · subst ey
    cases (show u = Value.ref b from ry)
    obtain ⟨z, hd, xs, rel, dd⟩ := dt_rd I.hok e
    refine wpAny_notIn_heap (tupleKind_room_in1 hu) (key_of I.hok eb) hd dd ?_
    have q := (rel.val k).isSome_eq
    rw [Option.isSome_map] at q
    rw [← q, ← l]
    exact h _ (I.tok _)
theorem d_write {h' : Heap} {t' : Nat} {ob : HO} (I : Inv X pins σ H s) (mu : Mut (H a)) (hs : Heap.SameBut a s.heap h') (he : ∃ q, h'.get? a = some q) (new : ObjOk X.prog X.w (upd H a ob) h' a ob) :
    Inv X pins σ (upd H a ob) { s with heap := h', toks := t' } :=
  I.write (x := a) (e := a) mu (.inl rfl) (fun b q hb z => (hs.2 b hb).trans z) he new
theorem dk_new {P : Program} {w : World} {H' : Hp} {h' : Heap} {kvs : List (Key × V)} {vs : List (Key × Value)} (z : kvs.length ≤ sizeLine) (hd : (a == sysModules) = false) (rel : KV kvs vs) (dd : h'.DictOf (mixKind P w) a vs) :
    ObjOk P w H' h' a (.dK kvs) := ⟨z, hd, vs, rel, dd⟩
theorem d_setItem {H' : Hp} {Q : Unit → Shared → Prop} (hu : A.units + 1 < cLine) (I : Inv X pins σ H s) (g : DPut H a y v H') (ry : RelV y u) (rv : RelV v r) (h : ∀ s', Inv X pins σ H' s' → Q () s') :
    wpAny (model X.prog X.w) A (setItem (.ref a) u r) Q E s := by
  rcases g with ⟨kvs, k, e, ey, l, eH⟩ | ⟨kvs, k, b, e, ey, eb, l, eH⟩
  · subst ey eH
    obtain ⟨z, hd, vs, rel, dd⟩ := dk_of I.hok e
    have hz : vs.length ≤ sizeLine := by rw [← rel.length]; exact z
    have hl : (putK kvs k v).length ≤ sizeLine := by have := length_putK kvs k v; omega
    refine wpAny_setItem_pairs (hsz := hz) (kV_is ry) dd fun h' dd' hs => h _ ?_
    have he : ∃ q, h'.get? a = some q := let ⟨q, _, _, hq, _⟩ := dd'; ⟨q, hq⟩
    exact d_write I (by rw [e]; exact True.intro) hs he (dk_new hl hd (rel.put k rv) dd')
  · subst ey eH
    cases (show u = Value.ref b from ry)
    obtain ⟨z, hd, xs, rel, dd⟩ := dt_of I.hok e
    have hz : xs.length ≤ sizeLine := by rw [← Paired.length rel]; exact z
    have hl : (putK kvs k v).length ≤ sizeLine := by have := length_putK kvs k v; omega
    refine wpAny_setItem_heap (hsz := hz) (tupleKind_room_in1 hu) (key_of I.hok eb) dd fun h' dd' hs => h _ ?_
    obtain ⟨q, es, ep, hq, h2, h3, h4, _, h5⟩ := dd'
    refine d_write I (by rw [e]; exact True.intro) hs ⟨q, hq⟩ ⟨hl, hd, _, (rel.put k eb rv).keeps fun c ys ec => ?_, q, es, ep, hq, h2, h3, h4, h5⟩
    rw [upd_ne (ne_of ec e (fun z => nomatch z))]
    exact ec
end

section
variable {X : Cx} {pins : List (Addr × Obj)} {σ : St} {H : Hp} {s : Shared} {a : Addr} {kvs : List (Key × V)} {k : Key} {u : Value} {A : Around} {E : Value → Shared → Prop}
theorem d_delItem {Q : Unit → Shared → Prop} (I : Inv X pins σ H s) (e : H a = some (.dK kvs)) (ry : RelV (kV k) u) (l : (valV kvs k).isSome = true) (h : ∀ s', Inv X pins σ (upd H a (.dK (dropK kvs k))) s' → Q () s') :
    wpAny (model X.prog X.w) A (delItem (.ref a) u) Q E s := by
  obtain ⟨z, hd, vs, rel, dd⟩ := dk_of I.hok e
  refine wpAny_delItem_slot dd.typeIs (by decide) PySem.F.slot_dict_delitem
    (call_meetsIn PySem.F.slot_dict_delitem dd.typeIs PySem.F.entry_dict_delitem (PySem.F.args_dict_delitem_2 _ _) (meets_dict_delitem_pairs (mixKind X.prog X.w) a (kV_is ry)) ⟨vs, dd, by rw [← rel.length]; exact z, by rw [← (rel.val k).isSome_eq]; exact l, fun h' dd' hs => h _ ?_⟩)
  have he : ∃ q, h'.get? a = some q := let ⟨q, _, _, hq, _⟩ := dd'; ⟨q, hq⟩
  exact d_write I (by rw [e]; exact True.intro) hs he (dk_new (Nat.le_trans (dropK_le kvs k) z) hd (rel.drop k) dd')
theorem d_pop {v : V} {more : List Value} {Q : Value → Shared → Prop} (I : Inv X pins σ H s) (e : H a = some (.dK kvs)) (ry : RelV (kV k) u) (l : valV kvs k = some v) (hm : more = [] ∨ ∃ x, more = [x])
    (h : ∀ w' s', Inv X pins σ (upd H a (.dK (dropK kvs k))) s' → RelV v w' → Q w' s') : wpAny (model X.prog X.w) A (call (.builtin "dict.pop") (.ref a :: u :: more)) Q E s := by
  obtain ⟨z, hd, vs, rel, dd⟩ := dk_of I.hok e
  obtain ⟨w', hw, rw'⟩ := RelO.some_of (v := v) (o := valueAt vs k) (by rw [← l]; exact rel.val k)
  have hp : (keyPart u).isSome = true := by
    cases k with
    | inl i => obtain ⟨t, q⟩ := (show ∃ t, u = Value.int i t from ry); subst q; rfl
    | inr x => obtain ⟨t, q⟩ := (show ∃ t, u = Value.str x t from ry); subst q; rfl
  have ha : argsOk "dict.pop" ⟨.ref a :: u :: more, []⟩ := by
    rcases hm with q | ⟨x, q⟩
    · subst q; exact PySem.F.args_dict_pop_2 _ _
    · subst q; exact PySem.F.args_dict_pop_3 _ _ _
  refine call_meetsIn PySem.F.slot_dict_pop dd.typeIs PySem.F.entry_dict_pop ha (meets_dict_pop_there (mixKind X.prog X.w) a (kV_is ry) more hm hp)
    ⟨vs, w', dd, by rw [← rel.length]; exact z, hw, fun h' dd' hs => h w' _ ?_ rw'⟩
  have he : ∃ q, h'.get? a = some q := let ⟨q, _, _, hq, _⟩ := dd'; ⟨q, hq⟩
  exact d_write I (by rw [e]; exact True.intro) hs he (dk_new (Nat.le_trans (dropK_le kvs k) z) hd (rel.drop k) dd')
end


def NoSl (i : Expr) : Prop := ∀ ov iv, subscripted i false ov iv = operate [ov, iv] (getItem ov iv)
theorem subD_of {prog : Program} {w : World} {A : Around} {E : Value → Shared → Prop} {s : Shared} {env : Env} {value slice : Expr} {pos : Pos} {T id : String} {Q : Value → Shared → Prop}
    (hl : typeLookup (.type T) "__getitem__" = pure (some (.builtin id))) (hs : NoSl slice)
    (h : wpAny (model prog w) A (eval value env) (fun o s₁ => wpAny (model prog w) A (eval slice env) (fun i s₂ => s₂.TypeIs o T ∧ wpAny (model prog w) A (getItem o i) Q E s₂) E s₁) E s) :
    wpAny (model prog w) A (eval (.Subscript value slice pos) env) Q E s := by
  refine Subscript_ (wpAny_mono h (fun o s₁ h₁ => wpAny_mono h₁ (fun i s₂ h₂ => ?_) fun _ _ x => x) fun _ _ x => x)
  obtain ⟨hT, h₂⟩ := h₂
  unfold subscriptTail
  refine wpAny_bind ?_
  rw [getitemInPython_of_ne hT.not_modules]
  refine wpAny_bind (wpAny_specialOf hT hl ?_)
  have fin : wpAny (model prog w) A (subscripted slice false o i) (fun r s₃ => wpAny (model prog w) A (letTemporaryGo value o r >>= fun _ => pure r) Q E s₃) E s₂ := by
    rw [hs o i]
    exact wpAny_operating (wpAny_mono h₂ (fun r s₃ h₃ => wpAny_bind (wpAny_letTemporaryGo (wpAny_pure h₃))) fun _ _ x => x)
  first
    | exact wpAny_pure (wpAny_bind fin)
    | exact wpAny_bind (wpAny_pure (wpAny_bind fin))
    | exact wpAny_bind fin

theorem dict_typeIs {X : Cx} {pins : List (Addr × Obj)} {σ : St} {H : Hp} {s : Shared} {a : Addr} {y : V} {o : Option V} (I : Inv X pins σ H s) (g : DGet H a y o) : s.TypeIs (.ref a) "dict" := by
  rcases g with ⟨kvs, k, e, _, _⟩ | ⟨kvs, k, b, e, _, _, _⟩
  · obtain ⟨_, _, vs, _, dd⟩ := dk_rd I.hok e
    exact dd.typeIs
  · obtain ⟨_, _, xs, _, dd⟩ := dt_rd I.hok e
    exact dd.typeIs
def tDGet (td ty : TE) : TE := fun σ H Q => td σ H fun x H1 => ty σ H1 fun y H2 => ∃ a v, x = .ref a ∧ DGet H2 a y (some v) ∧ Q v H2
def tDIn (ty td : TE) : TE := fun σ H Q => ty σ H fun y H1 => td σ H1 fun x H2 => ∃ a o, x = .ref a ∧ DGet H2 a y o ∧ Q (.bl o.isSome) H2
def tDNotIn (ty td : TE) : TE := fun σ H Q => ty σ H fun y H1 => td σ H1 fun x H2 => ∃ a o, x = .ref a ∧ DGet H2 a y o ∧ Q (.bl (!o.isSome)) H2
def sDPut (td ty tv : TE) : TS := fun D σ H => tv σ H fun v H1 => td σ H1 fun x H2 => ty σ H2 fun y H3 => ∃ a H4, x = .ref a ∧ DPut H3 a y v H4 ∧ D.nx σ H4
def sDAug (td ty tv : TE) (rd : V → V → Hp → VK → Prop) : TS := fun D σ H => td σ H fun x H1 => ty σ H1 fun y H2 => ∃ a v, x = .ref a ∧ DGet H2 a y (some v) ∧
  tv σ H2 fun y2 H3 => rd v y2 H3 fun z H4 => ∃ H5, DPut H4 a y z H5 ∧ D.nx σ H5
def sDDel (td ty : TE) : TS := fun D σ H => td σ H fun x H1 => ty σ H1 fun y H2 => ∃ a kvs k, x = .ref a ∧ H2 a = some (.dK kvs) ∧ y = kV k ∧ (valV kvs k).isSome = true ∧ D.nx σ (upd H2 a (.dK (dropK kvs k)))

section
variable {X : Cx} {o i e value : Expr} {pos pos' tpos : Pos} {td ty tv : TE}
theorem pe_dget (hu : X.A.units + 1 < cLine) (ho : PE X o td) (hi : PE X i ty) (hs : NoSl i) : PE X (.Subscript o i pos) (tDGet td ty) := by
  intro pins s σ H Q I h
  refine subD_of PySem.F.slot_dict_getitem.lookup hs (thn (ho pins s σ H _ I h) fun u s1 ⟨x, H1, I1, rx, q1⟩ => thn (hi pins s1 σ H1 _ I1 q1) fun iv s2 ⟨y, H2, I2, ry, a, v, ex, g, q2⟩ => ?_)
  subst ex
  obtain rfl : u = Value.ref a := rx
  exact ⟨dict_typeIs I2 g, d_getItem hu I2 g ry fun w' s3 I3 rw' => ⟨v, H2, I3, rw', q2⟩⟩
theorem pc_din (hu : X.A.units + 1 < cLine) (hi : PE X i ty) (ho : PE X o td) : PC X .In i o (tDIn ty td) := by
  intro pins s σ H Q I h
  refine thn (hi pins s σ H _ I h) fun iv s1 ⟨y, H1, I1, ry, q1⟩ => thn (ho pins s1 σ H1 _ I1 q1) fun u s2 ⟨x, H2, I2, rx, a, ov, ex, g, q2⟩ => ?_
  subst ex
  obtain rfl : u = Value.ref a := rx
  exact d_in hu I2 g ry fun s3 I3 => ⟨.bl ov.isSome, H2, I3, rfl, q2⟩
theorem pc_dnotin (hu : X.A.units + 1 < cLine) (hi : PE X i ty) (ho : PE X o td) : PC X .NotIn i o (tDNotIn ty td) := by
  intro pins s σ H Q I h
  refine thn (hi pins s σ H _ I h) fun iv s1 ⟨y, H1, I1, ry, q1⟩ => thn (ho pins s1 σ H1 _ I1 q1) fun u s2 ⟨x, H2, I2, rx, a, ov, ex, g, q2⟩ => ?_
  subst ex
  obtain rfl : u = Value.ref a := rx
  exact d_notIn hu I2 g ry fun s3 I3 => ⟨.bl (!ov.isSome), H2, I3, rfl, q2⟩
theorem ps_dput (hu : X.A.units + 1 < cLine) (ho : PE X o td) (hi : PE X i ty) (hv : PE X value tv) (hs : swapsWith value (some (.Subscript o i pos')) pos.line X.env = pure false) :
    PS X (.Assign [.Subscript o i pos'] value pos) (sDPut td ty tv) := by
  intro pins s σ H D I h
  refine wpAny_Assign_Subscript (thn (hv pins s σ H _ I h) fun r s1 ⟨v, H1, I1, rv, q1⟩ => thn (ho pins s1 σ H1 _ I1 q1) fun u s2 ⟨x, H2, I2, rx, q2⟩ => thn (hi pins s2 σ H2 _ I2 q2) fun iv s3 ⟨y, H3, I3, ry, a, H4, ex, g, q3⟩ => ?_) hs
  subst ex
  obtain rfl : u = Value.ref a := rx
  exact d_setItem hu I3 g ry rv fun s4 I4 => ⟨σ, H4, I4, q3⟩
end


theorem dk_empty {P : Program} {w : World} {H : Hp} (h : Heap) (hb : sysModules < h.objs.size) : ObjOk P w H (h.push { cls := .type "dict", data := .dict #[] }) h.objs.size (.dK []) :=
  ⟨Nat.zero_le _, beq_eq_false_iff_ne.mpr (Ne.symm (Nat.ne_of_lt hb)), [], .nil, Heap.DictOf.new h⟩
def tDNewK : TE := fun _ H Q => ∀ p, H p = none → Q (.ref p) (upd H p (.dK []))
def tDNewT : TE := fun _ H Q => ∀ p, H p = none → Q (.ref p) (upd H p (.dT []))
section
variable {X : Cx} {pos : Pos}
theorem pe_dnewK : PE X (.Dict [] [] pos) tDNewK := fun pins s σ H Q I h =>
  wpAny_Dict_empty ⟨.ref s.heap.objs.size, _, I.laid (a := s.heap.objs.size) (o := .dK []) (t' := s.toks) (fun _ _ q => Heap.get?_push_of_some _ q) (Nat.le_refl _) (dk_empty s.heap I.big), rfl, h _ (I.hok.fresh (Nat.le_refl _))⟩
end

def tPairs : List (TE × TE) → St → Hp → (List (V × V) → Hp → Prop) → Prop
  | [], _, H, Q => Q [] H
  | (tk, tv) :: r, σ, H, Q => tk σ H fun x H1 => tv σ H1 fun y H2 => tPairs r σ H2 fun ps H3 => Q ((x, y) :: ps) H3
abbrev VV : List (V × V) → List (Value × Value) → Prop := Paired fun p q => RelV p.1 q.1 ∧ RelV p.2 q.2
def PPs (X : Cx) (pos : Pos) (keys : List (Option Expr)) (values : List Expr) (trs : List (TE × TE)) : Prop :=
  ∀ (pins : List (Addr × Obj)) (s : Shared) (σ : St) (H : Hp) (Q : List (V × V) → Hp → Prop), Inv X pins σ H s → tPairs trs σ H Q →
    wpAny (model X.prog X.w) X.A (evalPairs (pairTrees keys values X.env pos)) (fun vs s' => ∃ ps H', Inv X pins σ H' s' ∧ VV ps vs ∧ Q ps H') X.xe s
def mergeK (kvs more : List (Key × V)) : List (Key × V) := more.foldl (fun acc kv => putK acc kv.1 kv.2) kvs
def tDisp (trs : List (TE × TE)) : TE := fun σ H Q => ∀ p, H p = none → tPairs trs σ (upd H p (.dK [])) fun ps H2 => H2 p = some (.dK []) ∧ ∃ kvs : List (Key × V), ps = kvs.map (fun kv => (kV kv.1, kv.2)) ∧ kvs.length ≤ 15 ∧ Q (.ref p) (upd H2 p (.dK (mergeK [] kvs)))
structure M1 (X : Cx) (o : Expr) (m : Str) (apos : Pos) (e : Expr) (cpos : Pos) : Prop where
  base : attributeBase o m X.env (eval o X.env) = eval o X.env
  few : ((backTo cpos (starEach [e] X.env)).all (fun x => !x.1) && (backToKw cpos (keywordEach [] X.env)).all (fun x => x.1.isSome)
    && decide (([e] : List Expr).length + ([] : List Keyword).length + (if ([] : List Keyword).isEmpty then 0 else 1) < 30)) = true
  line : (apos.endLine == cpos.line) = true
  trees : backTo cpos (starEach [e] X.env) = [(false, eval e X.env)]
structure M2 (X : Cx) (o : Expr) (m : Str) (apos : Pos) (e f : Expr) (cpos : Pos) : Prop where
  base : attributeBase o m X.env (eval o X.env) = eval o X.env
  few : ((backTo cpos (starEach [e, f] X.env)).all (fun x => !x.1) && (backToKw cpos (keywordEach [] X.env)).all (fun x => x.1.isSome)
    && decide (([e, f] : List Expr).length + ([] : List Keyword).length + (if ([] : List Keyword).isEmpty then 0 else 1) < 30)) = true
  line : (apos.endLine == cpos.line) = true
  trees : backTo cpos (starEach [e, f] X.env) = [(false, eval e X.env), (false, eval f X.env)]

def IsD (H : Hp) (a : Addr) : Prop := (∃ kvs, Rd H a (.dK kvs)) ∨ ∃ kvs, Rd H a (.dT kvs)
section
variable {X : Cx} {pins : List (Addr × Obj)} {σ : St} {H : Hp} {s : Shared} {a : Addr} {y d : V} {u r : Value} {o : Option V} {A : Around} {E : Value → Shared → Prop}
end

def tDGet1 (td ty : TE) : TE := fun σ H Q => td σ H fun x H1 => ∃ a, x = .ref a ∧ IsD H1 a ∧ ty σ H1 fun y H2 => ∃ o, DGet H2 a y o ∧ Q (o.getD .non) H2
def tDGet2 (td ty tx : TE) : TE := fun σ H Q => td σ H fun x H1 => ∃ a, x = .ref a ∧ IsD H1 a ∧ ty σ H1 fun y H2 => tx σ H2 fun z H3 => ∃ o, DGet H3 a y o ∧ Q (o.getD z) H3
def tDPop1 (td ty : TE) : TE := fun σ H Q => td σ H fun x H1 => ∃ a, x = .ref a ∧ IsD H1 a ∧ ty σ H1 fun y H2 => ∃ kvs k v, H2 a = some (.dK kvs) ∧ y = kV k ∧ valV kvs k = some v ∧ Q v (upd H2 a (.dK (dropK kvs k)))
def tDPop2 (td ty tx : TE) : TE := fun σ H Q => td σ H fun x H1 => ∃ a, x = .ref a ∧ IsD H1 a ∧ ty σ H1 fun y H2 => tx σ H2 fun z H3 => ∃ kvs k, H3 a = some (.dK kvs) ∧ y = kV k ∧
  (∀ v, valV kvs k = some v → Q v (upd H3 a (.dK (dropK kvs k)))) ∧ (valV kvs k = none → Q z H3)
section
variable {X : Cx} {o e f : Expr} {apos cpos : Pos} {td ty tx : TE}
end

section
variable {X : Cx} {pins : List (Addr × Obj)} {σ : St} {H : Hp} {s : Shared} {a : Addr} {kvs : List (Key × V)} {A : Around} {E : Value → Shared → Prop}
end


section
variable {X : Cx} {pins : List (Addr × Obj)} {σ : St} {H : Hp} {s : Shared} {a : Addr} {y : V} {u : Value} {A : Around} {E : Value → Shared → Prop}
end
end L2

namespace Att
open PySem PySem.W PySem.Calls PyProof.Rows

theorem ints_of_wellAll {P : Params} {h : Heap} : ∀ (ns : List Int) (vs : List Value), WellAll P h vs (ns.map WData.int) → IntsAre vs ns := by
  intro ns
  induction ns with
  | nil =>
    intro vs w
    rw [List.map_nil] at w
    cases w
    exact .nil
  | cons n ns ih =>
    intro vs w
    rw [List.map_cons] at w
    cases w with
    | cons a b =>
      cases a
      exact .cons _ _ (ih _ b)

theorem script_of {l : OpenLaw} {n : Nat} (hn : l.most = some n) {P : Params} {h : Heap} {args : List WData} {vals : List Value}
    (hpre : l.row.toRowW.claim.pre args = true) (hwl : WellAll P h vals args) :
    ∃ a vs ns, vals = [Value.ref a] ∧ args = [WData.list (ns.map WData.int)] ∧ h.get? a = some { cls := .type "list", data := .seq vs.toArray } ∧ IntsAre vs ns ∧ ns.length ≤ n := by
  have hsh : WShape.hasAll [] args [.list .int] = true := (pre_splitW hpre).1
  have hc : l.pre.holds [] { args := args } = true := (pre_splitW hpre).2
  obtain ⟨d, r, rfl, h1, h2⟩ := hasAllW_cons hsh
  obtain rfl := hasAllW_nil h2
  obtain ⟨xs, rfl, h3⟩ := hasW_list h1
  obtain ⟨ns, rfl⟩ := items_int h3
  have hlen : ns.length ≤ n := by
    unfold OpenLaw.pre at hc
    have h4 : (WTm.not (.lt (.lit (.int (n : Int))) (.len (.arg 0)))).holds [] { args := [.list (ns.map .int)] } = true := by
      have h4 := (holds_andW hc).1
      rw [hn] at h4
      exact h4
    have h5 := condW_of h4 (w_not (w_lt w_lit (w_len_list (w_arg rfl))))
    rw [List.length_map] at h5
    refine Nat.le_of_not_lt fun q => ?_
    have q' : (n : Int) < ((ns.length : Nat) : Int) := by omega
    first
      | (rw [decide_eq_true q'] at h5; exact absurd h5 (by decide))
      | (simp at h5; omega)
  cases hwl with
  | cons w1 w2 =>
    cases w2
    cases w1 with
    | list ho hall => exact ⟨_, _, ns, rfl, rfl, ho, ints_of_wellAll ns _ hall, hlen⟩

theorem post_true (l : OpenLaw) (args : List WData) : l.row.toRowW.claim.post args (.bool true) args = true :=
  postW_of (r := l.row.toRowW) (X := (true == true))
    (show WShape.has [] (.bool true) .bool = true by first | rfl | decide | simp [WShape.has, WShape.arms, WShape.armsAll])
    (show (WTm.eq .res (.lit (.bool true))).value [] { args := args, res := some (.bool true), after := args } = some (.bool (true == true)) from w_eq_bool (w_res rfl) w_lit) rfl

theorem attach_call {l : OpenLaw} {n : Nat} {q : Program} {loose : List Str} {XP : (Str → Option Value) → Heap → Prop} {YP : World → Heap → Prop} {d : DefRec}
    (hn : l.most = some n) (hdf : d.params.defaults = [])
    (call : ∀ (w : World) (s₀ s₁ : Shared) (mg mb : Str → Option Value) (fa : Addr) (o : Obj) (pm cd doc : Value) (a : Addr) (vs : List Value) (ns : List Int),
      Ground q loose [] XP w s₀ mg mb s₁.heap → YP w s₁.heap →
      s₁.heap.get? fa = some o → o.data = .func (docDef d.name d.params d.body d.scope pm cd doc) → s₁.heap.CodeRec cd d.name → mg d.name = some (.ref fa) →
      s₁.heap.get? a = some { cls := .type "list", data := .seq vs.toArray } → IntsAre vs ns → ns.length ≤ n → s₁.gens = #[] →
      codeAny (model l.prog w) callerA (.call (.ref fa) ⟨[.ref a], []⟩) (fun r s' => r = .ok (.ret (.bool true)) ∧ OldK s₁.heap s'.heap ∧ s'.os = s₁.os ∧ AllBare s'.gens) s₁) :
    WalkO q loose XP YP l.row.toRowW d [] (fun f vs => PySem.call f vs) := by
  intro w s₀ s₁ mg mb G Y fa o pm cd doc dV kV ho hd hcd hD hmg hg args vals as hpre hlay hrd hwl hlo
  obtain rfl : dV = .none := Dflts.none hD hdf
  obtain rfl : kV = .none := Dflts.noKw hD
  obtain ⟨a, vs, ns, rfl, rfl, hobj, hints, hlen⟩ := script_of hn hpre hwl
  refine enter_call (codeAny_mono (call w s₀ s₁ mg mb fa o pm cd doc a vs ns G Y ho (fd_plain hd) hcd hmg hobj hints hlen hg) fun r s' hq => ?_)
  obtain ⟨rfl, h2, h3, h4⟩ := hq
  exact ⟨.inl ⟨.bool true, .bool true, [], rfl, fun _ => rfl, .bool true, post_true l _, fun _ => ⟨List.Pairwise.nil, fun _ hm => (nomatch hm)⟩⟩, h2, h3, h4⟩

section
variable {prog : Program} {w : World} {A : Around} {E : Value → Shared → Prop} {s : Shared} {K : Frag}

def noObjs (h : Heap) : Heap := { h with objs := #[] }
def ledger (h : Heap) (L d : Addr) : List (Addr × Obj) := (List.range h.objs.size).filterMap fun a => if a = L ∨ a = d then none else (h.get? a).map fun o => (a, o)
end
end Att

namespace L2
open PySem PySem.Spec PyProof.Rows

theorem vals_ints : ∀ {vs : List Value} {ns : List Int}, IntsAre vs ns → Vals (ns.map V.int) vs
  | _, _, .nil => .nil
  | _, _, .cons n t h => .cons ⟨t, rfl⟩ (vals_ints h)

def Only (H : Hp) : Prop := ∀ b, H b = none ∨ ∃ o xs, H b = some (.frz o (.lst xs))

theorem law_call {P : Program} {w : World} {K : PySem.W.Frag} {mg mb : Str → Option Value} {CX : CXT} {k : Nat} {fa a : Addr} {fd : FuncData} {x : Str} {sp : Sp} {s₁ : Shared} {vs : List Value} {ns : List Int}
    (KX : K.In s₁.heap) (hns : s₁.heap.Ns mainGlobals mg) (hb : s₁.heap.Ns builtinsNs mb) (hbb : ∀ x : Str, x ≠ "__name__" → mb x = bootBuiltins x) (hlim : s₁.heap.NoLimit) (hg : s₁.gens = #[])
    (ha : s₁.heap.get? a = some { cls := .type "list", data := .seq vs.toArray }) (hi : IntsAre vs ns) (hl : ns.length ≤ sizeLine) (hr : Room k callerA)
    (F : ∀ base : Heap, K.In base → base.Ns mainGlobals mg → FnOk P w K mg base CX k fa fd [x] sp) (hbind : ∀ (s : Shared) (u : Value), BindsTo s fd ⟨[u], []⟩ [(x, u)])
    (hsp : ∀ H : Hp, Only H → SqL K H a (ns.map V.int) → sp [.ref a] H (fun v _ => v = .bl true) fun _ _ _ => False)
    (hCX : ∀ H e s', CX [] H s₁ (fun _ _ _ => False) e s' → False) :
    codeAny (model P w) callerA (.call (.ref fa) ⟨[.ref a], []⟩) (fun r s' => r = .ok (.ret (.bool true)) ∧ OldK s₁.heap s'.heap ∧ s'.os = s₁.os ∧ AllBare s'.gens) s₁ := by
  have rv := vals_ints hi
  have lenV := hi.length
  -- from an abstract heap in which nothing but the script may be tracked
  have core : ∀ H : Hp, Only H → SqL K H a (ns.map V.int) → HOk P w H s₁.heap → (∀ b, H b ≠ none → b = a) → (H a ≠ none → K.lookup a = none) →
      codeAny (model P w) callerA (.call (.ref fa) ⟨[.ref a], []⟩) (fun r s' => r = .ok (.ret (.bool true)) ∧ OldK s₁.heap s'.heap ∧ s'.os = s₁.os ∧ AllBare s'.gens) s₁ := by
    intro H hO hS hok hA hK
    have base_of : ∀ {b : Addr} {o : Obj}, s₁.heap.get? b = some o → H b = none → (hidT s₁.heap H).get? b = some o := fun e n => hidT_get e n
    have noA : ∀ {b : Addr} {o : Obj} {es : Array DictEntry} {ep : Nat}, s₁.heap.get? b = some o → o.data = .dict es ep → H b = none := fun {b o es ep} e d => by
      cases q : H b with
      | none => rfl
      | some u =>
        have e' : b = a := hA b (by rw [q]; simp)
        subst e'
        rw [ha] at e; cases e
        have d' : Data.seq vs.toArray _ = Data.dict es ep := d
        cases d'
    have nsK : ∀ {b : Addr} {m : Str → Option Value}, s₁.heap.Ns b m → (hidT s₁.heap H).Ns b m := fun {b m} ⟨o, es, ep, e, d, r⟩ => ⟨o, es, ep, base_of e (noA e d), d, r⟩
    have hKb : K.In (hidT s₁.heap H) := fun b o e => base_of (KX b o e) (by
      cases q : H b with
      | none => rfl
      | some u =>
        have e' : b = a := hA b (by rw [q]; simp)
        subst e'
        rw [hK (by rw [q]; simp)] at e; cases e)
    have hM : Mod K mg (hidT s₁.heap H) := ⟨hKb, nsK hns, ⟨mb, nsK hb, hbb⟩, let ⟨mc, h1, h2⟩ := hlim; ⟨mc, nsK h1, h2⟩⟩
    have e0 : Env0 P w K mg (hidT s₁.heap H) callerA [] s₁ H := ⟨rfl, hM, fun b o e => of_hidT e, Nat.le_of_eq (hidT_size _ _), trivial, fun b hb => absurd (show b ∈ ([] : List Addr) from hb) (by simp), hok, .of_eq hg⟩
    refine codeAny_mono ((F _ hKb (nsK hns)).run callerA [] s₁ H ⟨[.ref a], []⟩ [.ref a] [.ref a] _ _ hr e0 (hbind s₁ (.ref a)) (.cons rfl .nil) (hsp H hO hS)) fun r s' h => ?_
    cases r with
    | error e => exact (hCX H e s' h).elim
    | ok fl =>
      cases fl with
      | next => exact False.elim h
      | brk => exact False.elim h
      | cont => exact False.elim h
      | ret u =>
        obtain ⟨v, H', os, bare, un, hok', r', q⟩ := h
        have q' : v = .bl true := q
        subst q'
        obtain rfl : u = Value.bool true := r'
        refine ⟨rfl, OldK.of_keep fun b o e => ?_, os, bare⟩
        cases q : H b with
        | none => exact un.keep b o e q (by intro z; exact absurd (show b ∈ ([] : List Addr) from z) (by simp)) (by simp)
        | some u =>
          rcases hO b with z | ⟨ob, xs, z⟩
          · rw [q] at z; cases z
          · have z2 := un.frzs b ob _ z
            obtain ⟨e1, _⟩ := hok b _ z
            obtain ⟨e2, _⟩ := hok' b _ z2
            rw [e] at e1; cases e1
            exact e2
  cases hk : K.lookup a with
  | some o =>
    -- the script is one of the module's own objects
    have e := KX a o hk
    rw [ha] at e
    cases e
    refine core (fun _ => none) (fun _ => .inl rfl) (.inr ⟨_, vs.toArray, _, hk, rfl, rfl, rfl, by rw [List.size_toArray, lenV]; exact hl, by simpa using rv⟩) (fun b u z => by have z' : (none : Option HO) = some u := z; cases z') (fun b z => absurd rfl z) fun z => absurd rfl z
  | none =>
    refine core (fun b => if b = a then some (.frz { cls := .type "list", data := .seq vs.toArray } (.lst (ns.map V.int))) else none) (fun b => ?_) (.inl (.inr ⟨{ cls := .type "list", data := .seq vs.toArray }, if_pos rfl⟩)) (fun b u z => ?_) (fun b z => ?_) fun _ => hk
    · by_cases hb : b = a
      · exact .inr ⟨_, _, if_pos hb⟩
      · exact .inl (if_neg hb)
    · by_cases hb : b = a
      · have z' := (if_pos hb).symm.trans z
        cases z'
        subst hb
        exact ⟨ha, by rw [List.length_map]; exact hl, vs, _, rv, ha⟩
      · have z' := (if_neg hb).symm.trans z
        cases z'
    · by_cases hb : b = a
      · exact hb
      · exact absurd (if_neg hb) z
end L2

namespace L2
open PySem PySem.Spec PyProof.Rows

abbrev KOf {K : PySem.W.Frag} {h : Heap} (_ : K.In h) : PySem.W.Frag := K

theorem walk_of {l : PySem.W.OpenLaw} {n k : Nat} {q : Program} {loose : List Str} {XP : (Str → Option Value) → Heap → Prop} {YP : World → Heap → Prop} {d : DefRec} {K : Params → PySem.W.Frag} {CX : World → CXT} {sp : World → Sp} {x : Str}
    (hn : l.most = some n) (hn2 : n ≤ sizeLine) (hdf : d.params.defaults = []) (hr : Room k callerA)
    (hY : ∀ (w : World) (h : Heap), YP w h → (K w.params).In h)
    (F : ∀ (w : World) (mg : Str → Option Value) (fa : Addr) (h : Heap), (K w.params).In h → h.Ns mainGlobals mg → mg d.name = some (.ref fa) →
      ∃ fd : FuncData, (∀ (s : Shared) (u : Value), BindsTo s fd ⟨[u], []⟩ [(x, u)]) ∧
        ∀ base : Heap, (K w.params).In base → base.Ns mainGlobals mg → FnOk l.prog w (K w.params) mg base (CX w) k fa fd [x] (sp w))
    (hsp : ∀ (w : World) (H : Hp) (a : Addr) (ns : List Int), ns.length ≤ n → Only H → SqL (K w.params) H a (ns.map V.int) → sp w [.ref a] H (fun v _ => v = .bl true) fun _ _ _ => False)
    (hCX : ∀ (w : World) (H : Hp) (s : Shared) (e : Value) (s' : Shared), CX w [] H s (fun _ _ _ => False) e s' → False) :
    PySem.W.WalkO q loose XP YP l.row.toRowW d [] (fun f vs => PySem.call f vs) := by
  refine Att.attach_call hn hdf fun w s₀ s₁ mg mb fa o pm cd doc a vs ns G Y ho hd hcd hmg hobj hints hlen hg => ?_
  have KX := hY w _ Y
  obtain ⟨fd, hb, hF⟩ := F w mg fa _ KX G.T.g hmg
  exact law_call KX G.T.g G.T.b G.T.builtins G.T.nolimit hg hobj hints (Nat.le_trans hlen hn2) hr hF hb (fun H hO hS => hsp w H a ns hlen hO hS) fun H e s' => hCX w H s₁ e s'
theorem walk_ofK {l : PySem.W.OpenLaw} {n k : Nat} {q : Program} {loose : List Str} {XP : (Str → Option Value) → Heap → Prop} {YP : World → Heap → Prop} {d : DefRec} {K : Params → PySem.W.Frag} {CX : CXT} {sp : PySem.W.Frag → Sp} {x : Str}
    (hn : l.most = some n) (hn2 : n ≤ sizeLine) (hdf : d.params.defaults = []) (hr : Room k callerA)
    (hY : ∀ (w : World) (h : Heap), YP w h → (K w.params).In h)
    (F : ∀ (w : World) (mg : Str → Option Value) (fa : Addr) (h : Heap), (K w.params).In h → h.Ns mainGlobals mg → mg d.name = some (.ref fa) →
      ∃ fd : FuncData, (∀ (s : Shared) (u : Value), BindsTo s fd ⟨[u], []⟩ [(x, u)]) ∧
        ∀ base : Heap, (K w.params).In base → base.Ns mainGlobals mg → FnOk l.prog w (K w.params) mg base CX k fa fd [x] (sp (K w.params)))
    (hsp : ∀ (K : PySem.W.Frag) (H : Hp) (a : Addr) (ns : List Int), ns.length ≤ n → Only H → SqL K H a (ns.map V.int) → sp K [.ref a] H (fun v _ => v = .bl true) fun _ _ _ => False)
    (hCX : ∀ (H : Hp) (s : Shared) (e : Value) (s' : Shared), CX [] H s (fun _ _ _ => False) e s' → False) :
    PySem.W.WalkO q loose XP YP l.row.toRowW d [] (fun f vs => PySem.call f vs) :=
  walk_of (K := K) (CX := fun _ => CX) (sp := fun w => sp (K w.params)) hn hn2 hdf hr hY F (fun w H a ns h1 h2 h3 => hsp (K w.params) H a ns h1 h2 h3) fun _ H s e s' => hCX H s e s'
end L2

/- THE LAST THEOREM (shape; LID, My.* are yours):
   My.Adr: a structure of the addresses that your layer names (classes, functions); My.Txt K t: a structure (Prop) of the equations over K;
   My.txt_mk : {K} {implicit addresses ..} (e1 : nsIn K mainGlobals "law" = some (some (.ref f))) (e2 : K.lookup f = some ⟨oc, od, .func (fnOf "law" "law" params body scope dV kV doc pm an cdv ct), sl⟩) (e3 : codeIn K cdv "law" = true) .. : ∃ t, My.Txt K t

set_option maxRecDepth 100000 in
set_option maxHeartbeats 0 in
theorem PySem.Challenge.cw_LID_holds : PySem.Challenge.rw_LID.Holds := by
  w_on; o_law; k_head; (case hw => w_witness2)
  k_fill
  refine L2.walk_of (l := PySem.Challenge.rw_LID) (n := 63) (k := 40) (x := "script") (CX := fun w => ..) (sp := fun _ => My.sp_law) rfl (by decide) rfl ⟨rfl, by decide, by decide⟩ (fun w h Y => PySem.W.kIn_of Y) ?F ?S ?C
  case F =>
    intro w mg fa h KX G hmg
    have T : ∃ t, My.Txt (L2.KOf KX) t := by
      dsimp only [L2.KOf]                          -- K must stand as «<heap const> w.params» for k_is
      refine' My.txt_mk ?e1 ?e2 ?e3 ..
      (case e1 => PySem.W.k_is)                    -- in the order: a name -> its address -> its object -> its parts
      (case e2 => PySem.W.k_is)
      ..
    obtain ⟨t, T⟩ := T
    have e0 := hmg.symm.trans (PySem.W.mg_of KX G T.law)
    cases e0                                       -- fa is the law's own address
    exact ⟨_, fun s u => .of_eq rfl, fun base kb nb => My.law_fn T kb nb⟩     -- if «.of_eq rfl» comes too early: refine' ⟨_, ?b, fun base kb nb => My.law_fn T kb nb⟩; exact fun s u => .of_eq rfl
  case S => exact fun w H a ns hl hO hS => ..
  case C => exact ..
(the tactic k_is has no namespace: write k_is) -/

namespace L2
open PySem PySem.Spec PyProof.Rows

def inClass (s : Stmt) (j : Nat) : Stmt := match s with
  | .ClassDef _ _ _ body _ _ _ _ _ _ _ => body.getD j (.Pass ⟨0, 0, 0, 0⟩)
  | _ => .Pass ⟨0, 0, 0, 0⟩
def defArgs (s : Stmt) : Arguments := match s with
  | .FunctionDef _ a _ _ _ _ _ _ _ _ => a
  | _ => { posonlyargs := [], args := [], vararg := none, kwonlyargs := [], kw_defaults := [], kwarg := none, defaults := [] }
def defBody (s : Stmt) : List Stmt := match s with
  | .FunctionDef _ _ b _ _ _ _ _ _ _ => b
  | _ => []
def defScope (s : Stmt) : Scope := match s with
  | .FunctionDef _ _ _ _ _ _ sc _ _ _ => sc
  | _ => { kind := .function, names := [], isGenerator := false, isCoroutine := false }

abbrev CX0 : CXT := fun _ _ _ _ _ _ => False
abbrev E0 : XK := fun _ _ _ => False
theorem pass0 {X : Cx} : Passes CX0 X E0 := fun _ _ _ _ _ _ _ h => h.elim

structure Fun (K : PySem.W.Frag) (x qual : Str) (st : Stmt) (f : Addr) (fd : FuncData) : Prop where
  ex : ∃ (oc : Value) (od : Option Addr) (kV doc pm : Value) (an : Option Addr) (cdv ct : Value) (osl : Array (Option Value)),
    fd = PySem.W.fnOf x qual (defArgs st) (defBody st) (defScope st) .none kV doc pm an cdv ct ∧ K.lookup f = some ⟨oc, od, .func fd, osl⟩ ∧ PySem.W.codeIn K cdv qual = true
  kp : PySem.W.keepIn K (.ref f) = true
section
variable {P : Program} {w : World} {K : PySem.W.Frag} {mg : Str → Option Value} {base : Heap}
end
theorem hu_of {A : Around} {k : Nat} (hr : Room k A) : A.units + 1 < cLine := Nat.lt_of_le_of_lt (Nat.add_le_add_left (by decide : 1 ≤ 64) _) hr.units
section
variable {X : Cx}
theorem pv (i : Nat) {x : Str} {pos : Pos} (hN : X.N[i]? = some x := by rfl) (hv : Vis X.env.scope x := by first | exact Or.inl rfl | exact Or.inr (Or.inl rfl) | exact Or.inr (Or.inr rfl)) (hd : (x == ("__debug__" : Str)) = false := by decide)
    (hcd : (x == ("__classdict__" : Str)) = false := by decide) : PE X (.Name x pos) (tVar i) := pe_var hN hv hd hcd
end

theorem iteF {A B : Prop} (h : B) : if false = true then A else B := by
  rw [if_neg Bool.false_ne_true]
  exact h
theorem iteT {A B : Prop} (h : A) : if true = true then A else B := by
  rw [if_pos rfl]
  exact h
def Same (H H' : Hp) : Prop := ∀ b o, H b = some o → H' b = some o
theorem Same.refl (H : Hp) : Same H H := fun _ _ h => h
theorem Same.trans {H H1 H2 : Hp} (a : Same H H1) (b : Same H1 H2) : Same H H2 := fun c o h => b c o (a c o h)
theorem Same.seq {K : PySem.W.Frag} {H H' : Hp} {a : Addr} {xs : List V} (e : Same H H') (h : SqL K H a xs) : SqL K H' a xs := by
  rcases h with (h | ⟨o, h⟩) | h
  · exact .inl (.inl (e _ _ h))
  · exact .inl (.inr ⟨o, e _ _ h⟩)
  · exact .inr h

section
variable {κ : Type} [DecidableEq κ]
end
end L2

namespace L2
open PySem PySem.Spec PyProof.Rows
section
variable {X : Cx}
def CMulB (i j : Int) : Prop := i.natAbs < 2 ^ 2000 ∧ j.natAbs < 2 ^ 2000
def CDivB (_ j : Int) : Prop := 0 < j ∧ j.natAbs < 2 ^ 2000
theorem op_fdivB : OpR X (binaryOp .FloorDiv) (rI CDivB fun i j => .int (i / j)) := opI fun i j _ _ _ _ _ hc q => by
  have e : i.fdiv j = i / j := Int.fdiv_eq_ediv_of_nonneg _ (Int.le_of_lt hc.1)
  have hl : j.natAbs.log2 < 9000 := by
    have h0 : j.natAbs ≠ 0 := by have := hc.1; omega
    have h2 : j.natAbs.log2 < 2000 := (Nat.log2_lt h0).mpr hc.2
    omega
  refine floordiv_int (by have := hc.1; omega) ?_ (.inl (PyProof.noPylong_of_log2 hl))
  rw [e]; exact q
inductive ClsV : V → Value → Prop where
  | ty (n : String) : ClsV (.ty n) (.type n)
  | ref (C : Addr) : ClsV (.ref C) (.ref C)
def rIsi (K : PySem.W.Frag) : List V → Hp → VK → Prop := fun xs H Q => ∃ x c cv t b, xs = [x, c] ∧ ClsV c cv ∧ TyOf K H x t ∧ PySem.W.kitOne K t cv = some b ∧ Q (.bl b) H
theorem call_isi : CallR X (.builtin "isinstance") (rIsi X.K) := by
  intro pins s σ H xs us Q I r h
  obtain ⟨x, c, cv, t, b, rfl, hc, ty, e, q⟩ := h
  obtain ⟨u, w', rfl, r1, r2⟩ := vals2 r
  have ew : w' = cv := by cases hc <;> exact r2
  subst ew
  exact isinst_ok I r1 ty e fun tk => ⟨.bl b, H, I.tok tk, rfl, q⟩
structure BaseM (K : PySem.W.Frag) (C : Addr) (m : Str) (f : Addr) : Prop where
  ga : PySem.W.specialIn K (.ref C) "__getattribute__" = some (some (.builtin "type.__getattribute__"))
  rd : PySem.W.readsIn K C (.type "type") = true
  fd : PySem.W.findCls K (.ref C) (.type "type") m = some (.val (.ref f))
  kp : PySem.W.keepIn K (.ref f) = true
theorem pe_base {CX : CXT} {k : Nat} {f C : Addr} {fd : FuncData} {ps : List Str} {sp : Sp} {dvs : List V} {ds : List Value} {E : XK} {x m : Str} {p pos apos : Pos} {e : Expr} {es : List Expr} {t : TA} {pl : Sem Bool}
    (hg : Gl X x) (hm : X.mg x = some (.ref C)) (B : BaseM X.K C m f) (F : FnOk X.prog X.w X.K X.mg X.base CX k f fd ps sp) (hr : Room k X.A) (hb : Binds X.K fd ps ds) (hd : Vals dvs ds) (hx : Passes CX X E) (ha : PA X (e :: es) t)
    (hdb : (x == ("__debug__" : Str)) = false := by decide)
    (hst : starEach (e :: es) X.env = (false, eval e X.env) :: starEach es X.env := by rfl) (hpl : (backTo pos (starEach es X.env)).any (·.1) = false := by rfl)
    (ht : eval (.Call (.Attribute (.Name x p) m apos) (e :: es) [] pos) X.env = (do
      let ov ← eval (.Name x p) X.env
      standAt apos.atName
      let (f, first) ← holding [ov] (getMethod ov m pl)
      callWith pos f first (backTo pos (starEach (e :: es) X.env)) (backToKw pos (keywordEach [] X.env))) := by rfl) :
    PE X (.Call (.Attribute (.Name x p) m apos) (e :: es) [] pos) (tCall sp dvs E t) := by
  intro pins s σ H Q I h
  refine PySem.W.methodCall_KW (pl := pl) (ld_glob I hg hm ?_ hdb) ht
  refine PySem.W.method_cls I.kIn B.ga ?_
  refine PySem.W.cls_value I.kIn B.rd B.fd rfl ?_
  have I' : Inv X pins σ H { s with toks := s.toks + 1 } := I.tok _
  refine PySem.W.callWith_K (first := []) (h₀ := X.base) I.ok.mod.kin B.kp (thn (ha pos pins _ σ H _ I' h) fun us s2 ⟨vs, H2, I2, r, q2⟩ => ⟨I2.kIn, ?_⟩) hst hpl
  exact run_fn F hr hb hd hx I2 r q2
end
end L2

namespace L2
open PySem PySem.Spec PyProof.Rows
mutual
inductive HasD (K : PySem.W.Frag) (H : Hp) : V → PyData → Prop where
  | non : HasD K H .non .none
  | bl (b : Bool) : HasD K H (.bl b) (.bool b)
  | int (i : Int) : HasD K H (.int i) (.int i)
  | str (x : Str) : HasD K H (.str x) (.str x)
  | tup {a : Addr} {xs : List V} {ds : List PyData} (h : SqT K H a xs) (r : HasDs K H xs ds) : HasD K H (.ref a) (.tuple ds)
  | lst {a : Addr} {xs : List V} {ds : List PyData} (h : SqL K H a xs) (r : HasDs K H xs ds) : HasD K H (.ref a) (.list ds)
inductive HasDs (K : PySem.W.Frag) (H : Hp) : List V → List PyData → Prop where
  | nil : HasDs K H [] []
  | cons {x : V} {d : PyData} {xs : List V} {ds : List PyData} (h : HasD K H x d) (r : HasDs K H xs ds) : HasDs K H (x :: xs) (d :: ds)
end
theorem SqT.keeps {K : PySem.W.Frag} {H H' : Hp} {a : Addr} {xs : List V} (e : Same H H') (h : SqT K H a xs) : SqT K H' a xs := by
  rcases h with (h | ⟨o, h⟩) | h
  · exact .inl (.inl (e _ _ h))
  · exact .inl (.inr ⟨o, e _ _ h⟩)
  · exact .inr h
mutual
theorem HasD.keeps {K : PySem.W.Frag} {H H' : Hp} (e : Same H H') : ∀ {v : V} {d : PyData}, HasD K H v d → HasD K H' v d
  | _, _, .non => .non
  | _, _, .bl b => .bl b
  | _, _, .int i => .int i
  | _, _, .str x => .str x
  | _, _, .tup h r => .tup (SqT.keeps e h) (HasDs.keeps e r)
  | _, _, .lst h r => .lst (Same.seq e h) (HasDs.keeps e r)
theorem HasDs.keeps {K : PySem.W.Frag} {H H' : Hp} (e : Same H H') : ∀ {vs : List V} {ds : List PyData}, HasDs K H vs ds → HasDs K H' vs ds
  | _, _, .nil => .nil
  | _, _, .cons h r => .cons (HasD.keeps e h) (HasDs.keeps e r)
end
section
variable {X : Cx} {pins : List (Addr × Obj)} {σ : St} {H : Hp} {s : Shared}
mutual
theorem HasD.reads (I : Inv X pins σ H s) : ∀ {v : V} {d : PyData} {u : Value}, HasD X.K H v d → RelV v u → ∃ as, Reads s.heap u d as
  | _, _, _, .non, r => by cases r; exact ⟨_, .none⟩
  | _, _, _, .bl b, r => by cases r; exact ⟨_, .bool b⟩
  | _, _, _, .int i, r => by obtain ⟨t, rfl⟩ := r; exact ⟨_, .int i t⟩
  | _, _, _, .str x, r => by obtain ⟨t, rfl⟩ := r; exact ⟨_, .str x t⟩
  | _, _, _, .tup h q, r => by
    cases r
    obtain ⟨its, rv, ⟨o, h1, h2, n, h3⟩, _⟩ := I.tuple h
    obtain ⟨as, ra⟩ := HasDs.reads I q rv
    exact ⟨_, .tuple h1 h2 h3 (by simpa using ra)⟩
  | _, _, _, .lst h q, r => by
    cases r
    obtain ⟨its, rv, ⟨o, n, h1, h2, _, h3⟩, _⟩ := I.list h
    obtain ⟨as, ra⟩ := HasDs.reads I q rv
    exact ⟨_, .list h1 h2 h3 (by simpa using ra)⟩
theorem HasDs.reads (I : Inv X pins σ H s) : ∀ {vs : List V} {ds : List PyData} {us : List Value}, HasDs X.K H vs ds → Vals vs us → ∃ as, ReadsAll s.heap us ds as
  | _, _, _, .nil, r => by cases r; exact ⟨_, .nil⟩
  | _, _, _, .cons h q, r => by
    cases r with
    | cons r1 r2 =>
      obtain ⟨as, ra⟩ := HasD.reads I h r1
      obtain ⟨bs, rb⟩ := HasDs.reads I q r2
      exact ⟨_, .cons ra rb⟩
end
end
section
variable {X : Cx}
def rEqD (K : PySem.W.Frag) (f : Bool → Bool) : R2 := fun x y H Q => ∃ d e, HasD K H x d ∧ HasD K H y e ∧ d.canLay0 = true ∧ e.canLay0 = true ∧ d.depth ≤ 8 ∧ Q (.bl (f (PyData.eqv d e))) H
theorem op_eqD (hu : X.A.units + 8 < cLine) : OpR X (compareOp .Eq) (rEqD X.K id) := by
  intro pins s σ H x y v u Q I rx ry h
  obtain ⟨d, e, hd, he, c1, c2, hn, q⟩ := h
  obtain ⟨as, ra⟩ := hd.reads I rx
  obtain ⟨bs, rb⟩ := he.reads I ry
  exact SeqAt.compareEq_reads ra rb c1 c2 (by have := Nat.min_le_left d.depth e.depth; omega) ⟨.bl _, H, I, rfl, q⟩
theorem op_neD (hu : X.A.units + 8 < cLine) : OpR X (compareOp .NotEq) (rEqD X.K not) := by
  intro pins s σ H x y v u Q I rx ry h
  obtain ⟨d, e, hd, he, c1, c2, hn, q⟩ := h
  obtain ⟨as, ra⟩ := hd.reads I rx
  obtain ⟨bs, rb⟩ := he.reads I ry
  exact SeqAt.compareNe_reads ra rb c1 c2 (by have := Nat.min_le_left d.depth e.depth; omega) ⟨.bl _, H, I, rfl, q⟩
end
end L2

namespace L2
open PySem PySem.Spec PyProof.Rows
structure Cal (P : Program) (w : World) (K : PySem.W.Frag) (mg : Str → Option Value) (base : Heap) (k : Nat) (f : Addr) (ps : List Str) (dvs : List V) (sp : Sp) : Prop where
  ex : ∃ (fd : FuncData) (ds : List Value), FnOk P w K mg base CX0 k f fd ps sp ∧ Binds K fd ps ds ∧ Vals dvs ds
section
variable {X : Cx} {k : Nat} {f C : Addr} {ps : List Str} {sp : Sp} {dvs : List V} {x m : Str} {p pos apos : Pos} {e o : Expr} {es : List Expr} {ta : TE} {t : TA}
theorem pc_call (c : Cal X.prog X.w X.K X.mg X.base k f ps dvs sp) (hr : Room k X.A) (hg : Gl X x) (hm : X.mg x = some (.ref f)) (hk : PySem.W.keepIn X.K (.ref f) = true)
    (ha : PA X (e :: es) t) (hdb : (x == ("__debug__" : Str)) = false := by decide) (he : starEach (e :: es) X.env = (false, eval e X.env) :: starEach es X.env := by rfl) (hpl : (backTo pos (starEach es X.env)).any (·.1) = false := by rfl) :
    PE X (.Call (.Name x p) (e :: es) [] pos) (tCall sp dvs E0 t) := by
  obtain ⟨fd, ds, F, hb, hd⟩ := c.ex
  exact pe_call F hr hg hm hk hb hd pass0 ha hdb he hpl
theorem pc_meth {pl : Sem Bool} (he : PE X o ta) (c : Cls X.K C) (hm : Meth X.K C m f) (F : Cal X.prog X.w X.K X.mg X.base k f ps dvs sp) (hr : Room k X.A) (ha : PA X (e :: es) t)
    (hst : starEach (e :: es) X.env = (false, eval e X.env) :: starEach es X.env := by rfl) (hpl : (backTo pos (starEach es X.env)).any (·.1) = false := by rfl)
    (ht : eval (.Call (.Attribute o m apos) (e :: es) [] pos) X.env = (do
      let ov ← eval o X.env
      standAt apos.atName
      let (f, first) ← holding [ov] (getMethod ov m pl)
      callWith pos f first (backTo pos (starEach (e :: es) X.env)) (backToKw pos (keywordEach [] X.env))) := by rfl) :
    PE X (.Call (.Attribute o m apos) (e :: es) [] pos) (tMeth C m sp dvs E0 ta t) := by
  obtain ⟨fd, ds, F, hb, hd⟩ := F.ex
  exact pe_meth he c hm F hr hb hd pass0 ha hst hpl ht
end
structure FunD (K : PySem.W.Frag) (x qual : Str) (st : Stmt) (f : Addr) (dV : Value) (fd : FuncData) : Prop where
  ex : ∃ (oc : Value) (od : Option Addr) (kV doc pm : Value) (an : Option Addr) (cdv ct : Value) (osl : Array (Option Value)),
    fd = PySem.W.fnOf x qual (defArgs st) (defBody st) (defScope st) dV kV doc pm an cdv ct ∧ K.lookup f = some ⟨oc, od, .func fd, osl⟩ ∧ PySem.W.codeIn K cdv qual = true
theorem funD_mk {K : PySem.W.Frag} {x qual : Str} {st : Stmt} {f : Addr} {oc : Value} {od an : Option Addr} {osl : Array (Option Value)} {dV kV doc pm cdv ct : Value} (l : K.lookup f = some ⟨oc, od, .func (PySem.W.fnOf x qual (defArgs st) (defBody st) (defScope st) dV kV doc pm an cdv ct), osl⟩)
    (c : PySem.W.codeIn K cdv qual = true) : FunD K x qual st f dV (PySem.W.fnOf x qual (defArgs st) (defBody st) (defScope st) dV kV doc pm an cdv ct) := ⟨⟨oc, od, kV, doc, pm, an, cdv, ct, osl, rfl, l, c⟩⟩
section
variable {P : Program} {w : World} {K : PySem.W.Frag} {mg : Str → Option Value} {base : Heap}
theorem FunD.ok {x qual : Str} {st : Stmt} {f : Addr} {dV : Value} {fd : FuncData} {N ps : List Str} {k : Nat} {sp : Sp} (F : FunD K x qual st f dV fd) (S : FnScope N ps (defScope st)) (len : ∀ vs H Q E, sp vs H Q E → vs.length = ps.length)
    (hbody : ∀ (cdv : Value) (A : Around) (outer : List Env) (s : Shared) (H : Hp) (vs : List V) (Q : VK) (E : XK), Room k (A.deeper (envOfC qual (defScope st) s.heap.objs.size f cdv)) → sp vs H Q E →
      ∃ t, PSs (cxOf CX0 P w K mg base N qual (defScope st) f cdv A outer s H E).nox (defBody st) t ∧ t { nx := fun _ H' => Q .non H', rt := Q } (start N vs) H) : FnOk P w K mg base CX0 (k + 1) f fd ps sp := by
  obtain ⟨oc, od, kV, doc, pm, an, cdv, ct, osl, rfl, lk, hcd⟩ := F.ex
  refine fn_of lk hcd S len fun A outer s H vs Q E hr hsp => ?_
  obtain ⟨t, h, q⟩ := hbody cdv A outer s H vs Q E hr hsp
  exact ⟨t, h.nox, q⟩
theorem FunD.binds {x qual : Str} {st : Stmt} {f : Addr} {dV : Value} {fd : FuncData} {ps : List Str} {ds : List Value} (F : FunD K x qual st f dV fd)
    (h : ∀ (kV doc pm : Value) (an : Option Addr) (cdv ct : Value), Binds K (PySem.W.fnOf x qual (defArgs st) (defBody st) (defScope st) dV kV doc pm an cdv ct) ps ds) : Binds K fd ps ds := by
  obtain ⟨oc, od, kV, doc, pm, an, cdv, ct, osl, rfl, lk, hcd⟩ := F.ex
  exact h kV doc pm an cdv ct
end
end L2

namespace L2
open PySem PySem.Spec PyProof.Rows
structure DefT (K : PySem.W.Frag) (T : Addr) (items : Array Value) : Prop where
  ex : ∃ (o : Obj) (n : Nat), K.lookup T = some o ∧ o.data = .seq items n
structure TyCls (K : PySem.W.Frag) (C : Addr) : Prop where
  ha : PySem.W.findIn K (.ref C) "__class__" = some (some (.builtin "object.__class__"))
  hn : PySem.W.specialIn K (.builtin "object.__class__") "__get__" = some (some (.builtin "getset_descriptor.__get__"))
  ht : PySem.W.takesIn K (.builtin "object.__class__") = some true
  hm : PySem.W.mroIn K C (.type "object") = some true
section
variable {σ : St} {H : Hp} {Q : VK} {D : Ends} {K : PySem.W.Frag}
theorem r_next (h : D.nx σ H) : tNext D σ H := h
theorem r_ret {te : TE} (h : te σ H D.rt) : tRet te D σ H := h
theorem r_drop {te : TE} (h : te σ H fun _ H1 => D.nx σ H1) : tDrop te D σ H := h
theorem r_ifS {c : TT} {t u : TS} (h : c σ H fun b H1 => if b = true then t D σ H1 else u D σ H1) : tIfS c t u D σ H := h
theorem r_asg {te : TE} {i : Nat} (h : te σ H fun x H1 => D.nx (σ.set i (some x)) H1) : tAsg te (gName i) D σ H := h
theorem r_var {i : Nat} {v : V} (e : σ[i]? = some (some v)) (h : Q v H) : tVar i σ H Q := ⟨v, e, h⟩
theorem r_c {v : V} (h : Q v H) : tC v σ H Q := h
theorem r_op {r : R2} {ta tb : TE} (h : ta σ H fun x H1 => tb σ H1 fun y H2 => r x y H2 Q) : tOp r ta tb σ H Q := h
theorem r_un {r : V → Hp → VK → Prop} {ta : TE} (h : ta σ H fun x H1 => r x H1 Q) : tUn r ta σ H Q := h
theorem r_i0 {g : Int → Int → V} {i j : Int} (h : Q (g i j) H) : rI0 g (.int i) (.int j) H Q := ⟨i, j, rfl, rfl, h⟩
theorem r_i {C : Int → Int → Prop} {g : Int → Int → V} {i j : Int} (c : C i j) (h : Q (g i j) H) : rI C g (.int i) (.int j) H Q := ⟨i, j, rfl, rfl, c, h⟩
theorem r_u {g : Int → V} {i : Int} (h : Q (g i) H) : rU g (.int i) H Q := ⟨i, rfl, h⟩
theorem r_test {t : TE} {Q : Bool → Hp → Prop} (h : t σ H fun x H' => ∃ k, x = .bl k ∧ Q k H') : tTest t σ H Q := h
theorem r_and {t u : TT} {Q : Bool → Hp → Prop} (h : t σ H fun c H1 => if c = true then u σ H1 Q else Q false H1) : tAnd t u σ H Q := h
theorem r_or {t u : TT} {Q : Bool → Hp → Prop} (h : t σ H fun c H1 => if c = true then Q true H1 else u σ H1 Q) : tOr t u σ H Q := h
theorem r_not {t : TT} {Q : Bool → Hp → Prop} (h : t σ H fun c H1 => Q (!c) H1) : tNot t σ H Q := h
theorem r_andV {ta tb : TE} (h : ta σ H fun x H1 => ∃ c, x = .bl c ∧ if c = true then tb σ H1 Q else Q (.bl false) H1) : tAndV ta tb σ H Q := h
theorem r_notV {ta : TE} (h : ta σ H fun x H1 => ∃ c, x = .bl c ∧ Q (.bl (!c)) H1) : tNotV ta σ H Q := h
theorem r_bl {b : Bool} {R : Bool → Prop} (h : R b) : ∃ k, V.bl b = .bl k ∧ R k := ⟨b, rfl, h⟩
theorem r_nil {Q : List V → Hp → Prop} (h : Q [] H) : tNil σ H Q := h
theorem r_cons {ta : TE} {tr : TA} {Q : List V → Hp → Prop} (h : ta σ H fun x H1 => tr σ H1 fun xs H2 => Q (x :: xs) H2) : tCons ta tr σ H Q := h
theorem r_cb {r : List V → Hp → VK → Prop} {t : TA} (h : t σ H fun vs H1 => r vs H1 Q) : tCB r t σ H Q := h
theorem r_fld {ta : TE} {f : Str} (h : ta σ H fun x H1 => ∃ a C dx fs v, x = .ref a ∧ H1 a = some (.ins C dx fs) ∧ Cls K C ∧ NoAttr K C f ∧ fs.lookup f = some v ∧ Q v H1) : tFld K ta f σ H Q := h
theorem if_true' {A B : Prop} (h : A) : if true = true then A else B := by rw [if_pos rfl]; exact h
theorem if_false' {A B : Prop} (h : B) : if false = true then A else B := by rw [if_neg Bool.false_ne_true]; exact h
end
end L2

namespace L2
open PySem PySem.Spec PyProof.Rows
section
variable {X : Cx} {e : Expr} {es : List Expr}
theorem PE.weak {t u : TE} (h1 : PE X e t) (h : ∀ σ H Q, u σ H Q → t σ H Q) : PE X e u := fun pins s σ H Q I q => h1 pins s σ H Q I (h σ H Q q)
def mE (t : TE) : TE := fun σ H Q => ∃ Q' : VK, t σ H Q' ∧ ∀ v H', Q' v H' → Q v H'
def mA (t : TA) : TA := fun σ H Q => ∃ Q' : List V → Hp → Prop, t σ H Q' ∧ ∀ v H', Q' v H' → Q v H'
theorem PA.m {t : TA} (h : PA X es t) : PA X es (mA t) := fun pos pins s σ H Q I ⟨Q', q, m⟩ => thn (h pos pins s σ H Q' I q) fun _ _ ⟨v, H', I', r, z⟩ => ⟨v, H', I', r, m v H' z⟩
end
def keyD : Key → PyData
  | .inl i => .int i
  | .inr x => .str x
mutual
inductive Dv (H : Hp) : V → PyData → Prop where
  | non : Dv H .non .none
  | bl (b : Bool) : Dv H (.bl b) (.bool b)
  | int (i : Int) : Dv H (.int i) (.int i)
  | str (x : Str) : Dv H (.str x) (.str x)
  | tup {a : Addr} {xs : List V} {ds : List PyData} (h : H a = some (.tup xs)) (r : Dvs H xs ds) : Dv H (.ref a) (.tuple ds)
  | lst {a : Addr} {xs : List V} {ds : List PyData} (h : Rd H a (.lst xs)) (r : Dvs H xs ds) : Dv H (.ref a) (.list ds)
  | dct {a : Addr} {kvs : List (Key × V)} {ds : List (PyData × PyData)} (h : H a = some (.dK kvs)) (r : Dks H kvs ds) : Dv H (.ref a) (.dict ds)
inductive Dks (H : Hp) : List (Key × V) → List (PyData × PyData) → Prop where
  | nil : Dks H [] []
  | cons {k : Key} {x : V} {d : PyData} {xs : List (Key × V)} {ds : List (PyData × PyData)} (h : Dv H x d) (r : Dks H xs ds) : Dks H ((k, x) :: xs) ((keyD k, d) :: ds)
inductive Dvs (H : Hp) : List V → List PyData → Prop where
  | nil : Dvs H [] []
  | cons {x : V} {d : PyData} {xs : List V} {ds : List PyData} (h : Dv H x d) (r : Dvs H xs ds) : Dvs H (x :: xs) (d :: ds)
end
mutual
theorem Dv.has {K : PySem.W.Frag} {H : Hp} : ∀ {v : V} {d : PyData}, Dv H v d → d.canLay0 = true → HasD K H v d
  | _, _, .non, _ => .non
  | _, _, .bl b, _ => .bl b
  | _, _, .int i, _ => .int i
  | _, _, .str x, _ => .str x
  | _, _, .tup h r, c => .tup (.of h) (Dvs.has r (by simpa [PyData.canLay0] using c))
  | _, _, .lst h r, c => .lst (.inl h) (Dvs.has r (by simpa [PyData.canLay0] using c))
  | _, _, .dct h r, c => by simp [PyData.canLay0] at c
theorem Dvs.has {K : PySem.W.Frag} {H : Hp} : ∀ {v : List V} {d : List PyData}, Dvs H v d → PyData.canLayAll0 d = true → HasDs K H v d
  | _, _, .nil, _ => .nil
  | _, _, .cons h r, c => by
    have c' := c
    simp only [PyData.canLayAll0, Bool.and_eq_true] at c'
    exact .cons (Dv.has h c'.1) (Dvs.has r c'.2)
end
theorem Same.rd {H H' : Hp} {a : Addr} {u : HO} (e : Same H H') (h : Rd H a u) : Rd H' a u := by
  rcases h with h | ⟨o, h⟩
  · exact .inl (e _ _ h)
  · exact .inr ⟨o, e _ _ h⟩
mutual
theorem Dv.keeps {H H' : Hp} (e : Same H H') : ∀ {v : V} {d : PyData}, Dv H v d → Dv H' v d
  | _, _, .non => .non
  | _, _, .bl b => .bl b
  | _, _, .int i => .int i
  | _, _, .str x => .str x
  | _, _, .tup h r => .tup (e _ _ h) (Dvs.keeps e r)
  | _, _, .lst h r => .lst (e.rd h) (Dvs.keeps e r)
  | _, _, .dct h r => .dct (e _ _ h) (Dks.keeps e r)
theorem Dks.keeps {H H' : Hp} (e : Same H H') : ∀ {v : List (Key × V)} {d : List (PyData × PyData)}, Dks H v d → Dks H' v d
  | _, _, .nil => .nil
  | _, _, .cons h r => .cons (Dv.keeps e h) (Dks.keeps e r)
theorem Dvs.keeps {H H' : Hp} (e : Same H H') : ∀ {v : List V} {d : List PyData}, Dvs H v d → Dvs H' v d
  | _, _, .nil => .nil
  | _, _, .cons h r => .cons (Dv.keeps e h) (Dvs.keeps e r)
end
theorem Dvs.length {H : Hp} : ∀ {xs : List V} {ds : List PyData}, Dvs H xs ds → xs.length = ds.length
  | _, _, .nil => rfl
  | _, _, .cons _ r => by simp [Dvs.length r]
theorem Dvs.get {H : Hp} : ∀ {xs : List V} {ds : List PyData} {i : Nat} {d : PyData}, Dvs H xs ds → ds[i]? = some d → ∃ x, xs[i]? = some x ∧ Dv H x d
  | _, _, _, _, .nil, e => by simp at e
  | _, _, 0, _, .cons h _, e => by simp at e; subst e; exact ⟨_, rfl, h⟩
  | _, _, i + 1, x, .cons _ r, e => by
    obtain ⟨d, h1, h2⟩ := Dvs.get (i := i) (d := x) r (by simpa using e)
    exact ⟨d, by simpa using h1, h2⟩
theorem Dvs.append {H : Hp} : ∀ {xs ys : List V} {ds es : List PyData}, Dvs H xs ds → Dvs H ys es → Dvs H (xs ++ ys) (ds ++ es)
  | _, _, _, _, .nil, s => s
  | _, _, _, _, .cons r t, s => .cons r (Dvs.append t s)
theorem Dvs.ints {H : Hp} : ∀ (ns : List Int), Dvs H (ns.map V.int) (ns.map PyData.int)
  | [] => .nil
  | n :: ns => .cons (.int n) (Dvs.ints ns)
theorem Dv.int_inv {H : Hp} {v : V} {i : Int} (h : Dv H v (.int i)) : v = .int i := by cases h; rfl
theorem Dv.bl_inv {H : Hp} {v : V} {i : Bool} (h : Dv H v (.bool i)) : v = .bl i := by cases h; rfl
theorem Dv.str_inv {H : Hp} {v : V} {i : Str} (h : Dv H v (.str i)) : v = .str i := by cases h; rfl
def GotD (H : Hp) (d : PyData) (Q : VK) : Prop := match d with
  | .none => Q .non H
  | .bool b => Q (.bl b) H
  | .int i => Q (.int i) H
  | .str x => Q (.str x) H
  | d => ∀ v, Dv H v d → Q v H
theorem GotD.use {H : Hp} {d : PyData} {Q : VK} (g : GotD H d Q) {v : V} (h : Dv H v d) : Q v H := by
  cases h with
  | non => exact g
  | bl b => exact g
  | int i => exact g
  | str x => exact g
  | tup h r => exact g _ (.tup h r)
  | lst h r => exact g _ (.lst h r)
  | dct h r => exact g _ (.dct h r)
theorem atI_map {H : Hp} {xs : List V} {ds : List PyData} {i : Int} {d : PyData} (r : Dvs H xs ds) (h : atI ds i = some d) : ∃ x, atI xs i = some x ∧ Dv H x d := by
  unfold atI at h ⊢
  rw [r.length]
  cases e : ixN ds.length i with
  | none => rw [e] at h; simp at h
  | some j =>
    rw [e] at h
    have h' : ds[j]? = some d := by simpa using h
    obtain ⟨x, h1, h2⟩ := r.get h'
    exact ⟨x, by simpa using h1, h2⟩
def isSeq (H : Hp) (v : V) (ds : List PyData) : Prop := Dv H v (.tuple ds) ∨ Dv H v (.list ds)
def rIxD : R2 := fun x y H Q => ∃ ds i d, y = .int i ∧ isSeq H x ds ∧ atI ds i = some d ∧ GotD H d Q
theorem rIxD_ok {K : PySem.W.Frag} {x y : V} {H : Hp} {Q : VK} (h : rIxD x y H Q) : rIx K x y H Q := by
  obtain ⟨ds, i, d, rfl, hs, hi, g⟩ := h
  rcases hs with hs | hs
  · cases hs with
    | tup h r =>
      obtain ⟨v, h1, h2⟩ := atI_map r hi
      exact .inr (.inl ⟨_, _, i, v, rfl, rfl, .of h, h1, g.use h2⟩)
  · cases hs with
    | lst h r =>
      obtain ⟨v, h1, h2⟩ := atI_map r hi
      exact .inl ⟨_, _, i, v, rfl, rfl, .inl h, h1, g.use h2⟩
section
variable {X : Cx}
def rIxA : R2 := fun x y H Q => rIxD x y H Q ∨ rIxS x y H Q
theorem ix_A : IxR X rIxA := fun value slice pins s σ H x y v u Q I r1 r2 h => ix_seq value slice pins s σ H x y v u Q I r1 r2 (h.elim rIxD_ok fun z => .inr (.inr z))
def rLenA : List V → Hp → VK → Prop := fun xs H Q => (∃ v ds, xs = [v] ∧ isSeq H v ds ∧ Q (.int (ds.length : Nat)) H) ∨ ∃ z, xs = [.str z] ∧ z.length ≤ sizeLine ∧ Q (.int (z.length : Nat)) H
theorem call_lenA : CallR X (.builtin "len") rLenA := fun pins s σ H xs us Q I r h => by
  rcases h with ⟨v, ds, rfl, hs, q⟩ | h
  · rcases hs with hs | hs
    · cases hs with
      | tup h t => exact call_len_seq pins s σ H _ us Q I r ⟨_, _, rfl, .inr (.of h), by rw [t.length]; exact q⟩
    · cases hs with
      | lst h t => exact call_len_seq pins s σ H _ us Q I r ⟨_, _, rfl, .inl (.inl h), by rw [t.length]; exact q⟩
  · exact call_len_str pins s σ H _ us Q I r h
def tyN : PyData → String
  | .none => "NoneType" | .bool _ => "bool" | .int _ => "int" | .str _ => "str" | .list _ => "list" | .tuple _ => "tuple" | .dict _ => "dict"
def kitBi (t n : String) : Option Bool := if ((Value.type t) == (Value.type n)) = true then some true else if PySem.W.kitMeta n = true then (PySem.fastBuiltinMro t).map (·.contains (.type n)) else none
theorem kitBi_ok {K : PySem.W.Frag} {t n : String} {b : Bool} (h : kitBi t n = some b) : PySem.W.kitOne K (.type t) (.type n) = some b := h
def isiN (t n : String) : Bool := t == n || (t == "bool" && n == "int")
theorem kitBi_all : (["NoneType", "bool", "int", "str", "list", "tuple", "dict"].all fun t => ["int", "bool", "str", "list", "tuple", "dict"].all fun n => kitBi t n == some (isiN t n)) = true := by decide +kernel
theorem kitBi_of {t n : String} (ht : t ∈ ["NoneType", "bool", "int", "str", "list", "tuple", "dict"]) (hn : n ∈ ["int", "bool", "str", "list", "tuple", "dict"]) : kitBi t n = some (isiN t n) := by
  have h := List.all_eq_true.mp (List.all_eq_true.mp kitBi_all t ht) n hn
  exact beq_iff_eq.mp h
theorem tyN_mem (d : PyData) : tyN d ∈ ["NoneType", "bool", "int", "str", "list", "tuple", "dict"] := by
  cases d <;> simp [tyN]
theorem Dv.ty {K : PySem.W.Frag} {H : Hp} {v : V} {d : PyData} (h : Dv H v d) : TyOf K H v (.type (tyN d)) := by
  cases h with
  | non => exact .non
  | bl b => exact .bl b
  | int i => exact .int i
  | str x => exact .str x
  | tup h r => exact .tup h
  | lst h r =>
    rcases h with h | ⟨o, h⟩
    · exact .lst h
    · exact .frz h
  | dct h r => exact .dK h
theorem r_isiD {K : PySem.W.Frag} {H : Hp} {v : V} {d : PyData} {n : String} {Q : VK} (h : Dv H v d) (hn : n ∈ ["int", "bool", "str", "list", "tuple", "dict"]) (q : Q (.bl (isiN (tyN d) n)) H) : rIsi K [v, .ty n] H Q :=
  ⟨v, .ty n, .type n, _, _, rfl, .ty n, h.ty, kitBi_ok (kitBi_of (tyN_mem d) hn), q⟩
def rEqA (K : PySem.W.Frag) (f : Bool → Bool) : R2 := fun x y H Q => (scal x y = true ∧ Q (.bl (f (decide (x = y)))) H) ∨ ∃ d e, Dv H x d ∧ Dv H y e ∧ d.canLay0 = true ∧ e.canLay0 = true ∧ d.depth ≤ 8 ∧ Q (.bl (f (PyData.eqv d e))) H
theorem op_eqA (hu : X.A.units + 8 < cLine) : OpR X (compareOp .Eq) (rEqA X.K id) := fun pins s σ H x y v u Q I rx ry h => by
  rcases h with h | ⟨d, e, h1, h2, h3, h4, h5, h6⟩
  · exact op_eq pins s σ H x y v u Q I rx ry h
  · exact op_eqD hu pins s σ H x y v u Q I rx ry ⟨d, e, h1.has h3, h2.has h4, h3, h4, h5, h6⟩
theorem op_neA (hu : X.A.units + 8 < cLine) : OpR X (compareOp .NotEq) (rEqA X.K not) := fun pins s σ H x y v u Q I rx ry h => by
  rcases h with h | ⟨d, e, h1, h2, h3, h4, h5, h6⟩
  · exact op_ne pins s σ H x y v u Q I rx ry h
  · exact op_neD hu pins s σ H x y v u Q I rx ry ⟨d, e, h1.has h3, h2.has h4, h3, h4, h5, h6⟩
variable {es : List Expr} {t : TA} {pos : Pos}
def TupP (xs : List V) (H1 : Hp) (Q : VK) : Prop := xs.length ≤ sizeLine ∧ ∃ ds, Dvs H1 xs ds ∧ ∀ p H2, Same H1 H2 → H1 p = none → H2 p = some (.tup xs) → Dv H2 (.ref p) (.tuple ds) → Q (.ref p) H2
def LstP (xs : List V) (H1 : Hp) (Q : VK) : Prop := xs.length ≤ sizeLine ∧ ∃ ds, Dvs H1 xs ds ∧ ∀ p H2, Same H1 H2 → H1 p = none → H2 p = some (.lst xs) → Dvs H2 xs ds → Dv H2 (.ref p) (.list ds) → Q (.ref p) H2
def tTupD (t : TA) : TE := fun σ H Q => t σ H fun xs H1 => TupP xs H1 Q
def tLstD (t : TA) : TE := fun σ H Q => t σ H fun xs H1 => LstP xs H1 Q
theorem pe_lstD (h : PA X es t) : PE X (.List es pos) (tLstD t) := PE.weak (pe_lst h.m) fun σ H Q q => ⟨_, q, fun xs H1 ⟨hl, ds, hd, k⟩ => ⟨hl, fun p hp => by
  have sm : Same H1 (upd H1 p (.lst xs)) := fun b u e => by rw [upd_ne (ne_of_none e hp)]; exact e
  exact k p _ sm hp upd_same (hd.keeps sm) (.lst (.of upd_same) (hd.keeps sm))⟩⟩
variable {st : Stmt} {rest : List Stmt}
def tCut (t u : TS) : TS := fun D σ H => ∃ R : St → Hp → Prop, t { D with nx := R } σ H ∧ ∀ σ' H', R σ' H' → u D σ' H'
theorem pss_cut {t u : TS} (h1 : PS X st t) (h2 : PSs X rest u) : PSs X (st :: rest) (tCut t u) := by
  intro pins s σ H D I ⟨R, h, k⟩
  refine wpAny_execs_cons (thn (h1 pins s σ H { D with nx := R } I h) fun f s1 q => ?_)
  cases f with
  | next =>
    obtain ⟨σ', H', I', q⟩ := q
    exact h2 pins s1 σ' H' D I' (k _ _ q)
  | ret v => exact q
  | brk => exact q
  | cont => exact q
end
section
variable {σ : St} {H : Hp} {Q : VK} {D : Ends} {K : PySem.W.Frag}
theorem r_cutS {t u : TS} (h : t { D with nx := u D } σ H) : tCut t u D σ H := ⟨u D, h, fun _ _ z => z⟩
theorem r_lstD {t : TA} (h : t σ H fun xs H1 => LstP xs H1 Q) : tLstD t σ H Q := h
theorem r_eqS {f : Bool → Bool} {x y : V} (e : scal x y = true) (h : Q (.bl (f (decide (x = y)))) H) : rEqA K f x y H Q := .inl ⟨e, h⟩
theorem r_eqD {f : Bool → Bool} {x y : V} {d e : PyData} (h1 : Dv H x d) (h2 : Dv H y e) (h3 : d.canLay0 = true) (h4 : e.canLay0 = true) (h5 : d.depth ≤ 8) (h : Q (.bl (f (PyData.eqv d e))) H) : rEqA K f x y H Q := .inr ⟨d, e, h1, h2, h3, h4, h5, h⟩
theorem r_ixT {x : V} {ds : List PyData} {i : Int} {d : PyData} (hs : isSeq H x ds) (hi : atI ds i = some d) (g : GotD H d Q) : rIxA x (.int i) H Q := .inl ⟨ds, i, d, rfl, hs, hi, g⟩
theorem r_lenD {v : V} {ds : List PyData} (hs : isSeq H v ds) (h : Q (.int (ds.length : Nat)) H) : rLenA [v] H Q := .inl ⟨v, ds, rfl, hs, h⟩
theorem got_non (h : Q .non H) : GotD H .none Q := h
theorem got_str {i : Str} (h : Q (.str i) H) : GotD H (.str i) Q := h
theorem got_bl {i : Bool} (h : Q (.bl i) H) : GotD H (.bool i) Q := h
theorem if_bl {b : Bool} {A B : Prop} (h1 : b = true → A) (h2 : b = false → B) : if b = true then A else B := by
  cases b
  · exact iteF (h2 rfl)
  · exact iteT (h1 rfl)
end
theorem Room.hu8 {k : Nat} {A : Around} (r : Room k A) : A.units + 8 < cLine := Nat.lt_of_le_of_lt (by omega) r.units
end L2

namespace L2
open PySem PySem.Spec PyProof.Rows
theorem Same.at {H H' : Hp} {a : Addr} {o : HO} (s : Same H H') (h : H a = some o) : H' a = some o := s a o h
theorem same_upd {H : Hp} {t : Addr} {o : HO} (h : H t = none) : Same H (upd H t o) := fun b u e => by rw [upd_ne (ne_of_none e h)]; exact e
section
variable {σ : St} {H : Hp} {Q : VK} {D : Ends} {K : PySem.W.Frag}
end
end L2
namespace L2
open PySem PySem.Spec PyProof.Rows
end L2
namespace L2
open PySem PySem.Spec PyProof.Rows
def isInt : PyData → Bool | .int _ => true | .bool _ => true | _ => false
def isBool : PyData → Bool | .bool _ => true | _ => false
def isStr : PyData → Bool | .str _ => true | _ => false
def isLst : PyData → Bool | .list _ => true | _ => false
def isTup : PyData → Bool | .tuple _ => true | _ => false
def isDct : PyData → Bool | .dict _ => true | _ => false
section
variable {K : PySem.W.Frag} {H : Hp} {v : V} {d : PyData} {Q : VK}
theorem r_isi_bool (h : Dv H v d) (q : Q (.bl (isBool d)) H) : rIsi K [v, .ty "bool"] H Q := r_isiD h (by decide) (by cases d <;> exact q)
def Ins (H : Hp) (v : V) (C : Addr) (fs : List (Str × V)) : Prop := ∃ p dx, v = .ref p ∧ H p = some (.ins C dx fs)
theorem Ins.keeps {H H' : Hp} {C : Addr} {fs : List (Str × V)} (s : Same H H') (h : Ins H v C fs) : Ins H' v C fs := by
  obtain ⟨p, dx, rfl, e⟩ := h; exact ⟨p, dx, rfl, s _ _ e⟩
theorem r_fldI {R : V → Prop} {C : Addr} {fs : List (Str × V)} {f : Str} {x : V} (hp : Ins H v C fs) (c : Cls K C) (n : NoAttr K C f) (l : fs.lookup f = some x) (h : R x) :
    ∃ a C dx fs x, v = .ref a ∧ H a = some (.ins C dx fs) ∧ Cls K C ∧ NoAttr K C f ∧ fs.lookup f = some x ∧ R x := by
  obtain ⟨p, dx, rfl, e⟩ := hp
  exact ⟨p, C, dx, fs, x, rfl, e, c, n, l, h⟩
theorem r_methI {C : Addr} {m : Str} {fs : List (Str × V)} {R : Prop} (hp : Ins H v C fs) (hl : fs.lookup m = none) (h : R) : ∃ a dx fs, v = .ref a ∧ H a = some (.ins C dx fs) ∧ fs.lookup m = none ∧ R := by
  obtain ⟨p, dx, rfl, e⟩ := hp
  exact ⟨p, dx, fs, rfl, e, hl, h⟩
end
def look (f : Str) : List (Str × V) → Option V
  | [] => none
  | (g, v) :: r => if f = g then some v else look f r
theorem lookup_look (f : Str) : ∀ fs : List (Str × V), fs.lookup f = look f fs
  | [] => rfl
  | (g, v) :: r => by
    show (match f == g with | true => some v | false => r.lookup f) = if f = g then some v else look f r
    by_cases h : f = g
    · subst h; rw [if_pos rfl, beq_self_eq_true]
    · rw [if_neg h, beq_eq_false_iff_ne.mpr h]; exact lookup_look f r
end L2
namespace L2
open PySem PySem.Spec PyProof.Rows
section
variable {X : Cx}
def rIxK (K : PySem.W.Frag) : R2 := fun x y H Q => rIxA x y H Q ∨ rIxL K x y H Q
theorem ix_K : IxR X (rIxK X.K) := fun value slice pins s σ H x y v u Q I r1 r2 h => h.elim (ix_A value slice pins s σ H x y v u Q I r1 r2) (ix_list value slice pins s σ H x y v u Q I r1 r2)
def rLenK (K : PySem.W.Frag) : List V → Hp → VK → Prop := fun xs H Q => rLenA xs H Q ∨ ∃ p ys, xs = [.ref p] ∧ SqL K H p ys ∧ Q (.int ys.length) H
theorem call_lenK : CallR X (.builtin "len") (rLenK X.K) := fun pins s σ H xs us Q I r h => by
  rcases h with h | ⟨p, ys, e, hl, q⟩
  · exact call_lenA pins s σ H xs us Q I r h
  · exact call_len_seq pins s σ H xs us Q I r ⟨p, ys, e, .inl hl, q⟩
end
section
variable {σ : St} {H : Hp} {Q : VK} {D : Ends} {K : PySem.W.Frag}
theorem r_ixD {x : V} {ds : List PyData} {i : Int} {d : PyData} (hs : isSeq H x ds) (hi : atI ds i = some d) (g : GotD H d Q) : rIxK K x (.int i) H Q := .inl (r_ixT hs hi g)
theorem r_ixL {p : Addr} {xs : List V} {i : Int} {v : V} (hs : SqL K H p xs) (hi : atI xs i = some v) (g : Q v H) : rIxK K (.ref p) (.int i) H Q := .inr ⟨p, xs, i, v, rfl, rfl, hs, hi, g⟩
theorem r_lenK {v : V} {ds : List PyData} (hs : isSeq H v ds) (h : Q (.int (ds.length : Nat)) H) : rLenK K [v] H Q := .inl (r_lenD hs h)
theorem r_lenL {p : Addr} {xs : List V} (hs : SqL K H p xs) (h : Q (.int xs.length) H) : rLenK K [.ref p] H Q := .inr ⟨p, xs, rfl, hs, h⟩
theorem r_sfld {ta tv : TE} {f : Str} (h : tv σ H fun y H1 => ta σ H1 fun x H2 => ∃ a C dx fs, x = .ref a ∧ H2 a = some (.ins C dx fs) ∧ Cls K C ∧ NoAttr K C f ∧ fs.length < 1000 ∧ D.nx σ (upd H2 a (.ins C dx (putF f y fs)))) : sFld K ta tv f D σ H := h
theorem r_sfldv {p C dx : Addr} {fs fs' : List (Str × V)} {f : Str} {y : V} (hp : H p = some (.ins C dx fs)) (c : Cls K C) (n : NoAttr K C f) (hl : fs.length < 1000) (e : putF f y fs = fs') (h : D.nx σ (upd H p (.ins C dx fs'))) :
    ∃ a C dx fs, V.ref p = .ref a ∧ H a = some (.ins C dx fs) ∧ Cls K C ∧ NoAttr K C f ∧ fs.length < 1000 ∧ D.nx σ (upd H a (.ins C dx (putF f y fs))) := ⟨p, C, dx, fs, rfl, hp, c, n, hl, by rw [e]; exact h⟩
def spInit (C : Addr) (pre : List V → Prop) (fs : List V → List (Str × V)) : Sp := fun vs H Q _ => ∃ p dx args, vs = .ref p :: args ∧ pre args ∧ H p = some (.ins C dx []) ∧ Q .non (upd H p (.ins C dx (fs args)))
def rMin : List V → Hp → VK → Prop := fun xs H Q => ∃ i j, xs = [.int i, .int j] ∧ Q (.int (if j < i then j else i)) H
theorem r_is {R : Prop} (h : R) : V.non = V.non ∧ R := ⟨rfl, h⟩
end
def Bg (i : Int) : Prop := i.natAbs < 2 ^ 2000
theorem bg {i : Int} (h1 : -(10 ^ 200) < i) (h2 : i < 10 ^ 200) : i.natAbs < 2 ^ 2000 := by
  have : (10 : Nat) ^ 200 < 2 ^ 2000 := by decide +kernel
  have h3 : i.natAbs < 10 ^ 200 := by
    have e : ((10 : Nat) ^ 200 : Nat) = ((10 : Int) ^ 200).toNat := by decide +kernel
    rw [e]
    generalize (10 : Int) ^ 200 = m at h1 h2 ⊢
    omega
  exact Nat.lt_trans h3 this
theorem cdivB {i j : Int} (h1 : 0 < j) (h2 : j < 10 ^ 200) : CDivB i j := ⟨h1, bg (Int.lt_trans (by decide) h1) h2⟩
def cell (ns : List Int) (k : Nat) : Int := ns.getD k 0
def spCell (K : PySem.W.Frag) : Sp := fun vs H Q _ => ∃ l ns k, vs = [.ref l, .int k] ∧ SqL K H l (ns.map V.int) ∧ 0 ≤ k ∧ Q (.int (cell ns k.toNat)) H
theorem u_cell {K : PySem.W.Frag} {H : Hp} {Q : VK} {E : XK} {l : Addr} {ns : List Int} {k : Int} (h : SqL K H l (ns.map V.int)) (hk : 0 ≤ k) (q : Q (.int (cell ns k.toNat)) H) : spCell K [.ref l, .int k] H Q E := ⟨l, ns, k, rfl, h, hk, q⟩
theorem cell_at {ns : List Int} {k : Int} (h0 : 0 ≤ k) (h : k < (ns.map V.int).length) : atI (ns.map V.int) k = some (.int (cell ns k.toNat)) := by
  obtain ⟨n, rfl⟩ := Int.eq_ofNat_of_zero_le h0
  refine atI_nat ?_
  have hn : n < ns.length := by simpa using h
  simp [cell, hn, List.getD_eq_getElem?_getD]
theorem cell_no {ns : List Int} {k : Int} (h0 : 0 ≤ k) (h : ¬ k < (ns.map V.int).length) : cell ns k.toNat = 0 := by
  have : ns.length ≤ k.toNat := by simp at h; omega
  simp [cell, List.getD_eq_getElem?_getD, this]
end L2
namespace L2
open PySem PySem.Spec PyProof.Rows
def withD (sp : Sp) (vs : List V) (H : Hp) (Q : VK) (E : XK) : Prop := ∃ ws, vs = ws ∧ sp ws H Q E
theorem withD_eq (sp : Sp) (vs : List V) (H : Hp) (Q : VK) (E : XK) : withD sp vs H Q E = sp vs H Q E := propext ⟨fun ⟨_, e, h⟩ => e ▸ h, fun h => ⟨vs, rfl, h⟩⟩
def tCallN (sp : Sp) (dvs : List V) (E : XK) (t : TA) : TE := fun σ H Q => t σ H fun vs H1 => withD sp (vs ++ dvs) H1 Q E
theorem tCallN_eq (sp : Sp) (dvs : List V) (E : XK) (t : TA) : tCallN sp dvs E t = tCall sp dvs E t := by
  funext σ H Q; unfold tCallN tCall; congr 1; funext vs H1; exact withD_eq _ _ _ _ _
def tMethN (C : Addr) (m : Str) (sp : Sp) (dvs : List V) (E : XK) (ta : TE) (t : TA) : TE := fun σ H Q => ta σ H fun x H1 => ∃ a dx fs, x = .ref a ∧ H1 a = some (.ins C dx fs) ∧ fs.lookup m = none ∧
  t σ H1 fun vs H2 => withD sp (x :: (vs ++ dvs)) H2 Q E
theorem tMethN_eq (C : Addr) (m : Str) (sp : Sp) (dvs : List V) (E : XK) (ta : TE) (t : TA) : tMethN C m sp dvs E ta t = tMeth C m sp dvs E ta t := by
  funext σ H Q; unfold tMethN tMeth; congr 1; funext x H1
  have : ∀ H2 : Hp, (fun vs H2 => withD sp (x :: (vs ++ dvs)) H2 Q E) = fun vs H2 => sp (x :: (vs ++ dvs)) H2 Q E := fun _ => by funext vs H2; exact withD_eq _ _ _ _ _
  rw [this H1]
def MakeP (C : Addr) (sp : Sp) (vs : List V) (H1 : Hp) (Q : VK) (E : XK) : Prop := ∃ ws, vs = ws ∧ ∀ x dx, H1 x = none → H1 dx = none → dx ≠ x →
  sp (.ref x :: ws) (upd (upd H1 dx (.own x)) x (.ins C dx [])) (fun v H2 => v = .non ∧ Q (.ref x) H2) E
def tMakeN (C : Addr) (sp : Sp) (dvs : List V) (E : XK) (t : TA) : TE := fun σ H Q => t σ H fun vs H1 => MakeP C sp (vs ++ dvs) H1 Q E
theorem tMakeN_eq (C : Addr) (sp : Sp) (dvs : List V) (E : XK) (t : TA) : tMakeN C sp dvs E t = tMake C sp dvs E t := by
  funext σ H Q; unfold tMakeN tMake MakeP; congr 1; funext vs H1
  exact propext ⟨fun ⟨_, e, h⟩ => by subst e; exact h, fun h => ⟨_, rfl, h⟩⟩
section
variable {X : Cx} {k : Nat} {f C : Addr} {ps : List Str} {sp : Sp} {dvs : List V} {x m : Str} {p pos apos : Pos} {e o : Expr} {es : List Expr} {ta : TE} {t : TA}
theorem pn_call (c : Cal X.prog X.w X.K X.mg X.base k f ps dvs sp) (hr : Room k X.A) (hg : Gl X x) (hm : X.mg x = some (.ref f)) (hk : PySem.W.keepIn X.K (.ref f) = true)
    (ha : PA X (e :: es) t) (hdb : (x == ("__debug__" : Str)) = false := by decide) (he : starEach (e :: es) X.env = (false, eval e X.env) :: starEach es X.env := by rfl) (hpl : (backTo pos (starEach es X.env)).any (·.1) = false := by rfl) :
    PE X (.Call (.Name x p) (e :: es) [] pos) (tCallN sp dvs E0 t) := by rw [tCallN_eq]; exact pc_call c hr hg hm hk ha hdb he hpl
theorem pn_meth {pl : Sem Bool} (he : PE X o ta) (c : Cls X.K C) (hm : Meth X.K C m f) (F : Cal X.prog X.w X.K X.mg X.base k f ps dvs sp) (hr : Room k X.A) (ha : PA X (e :: es) t)
    (hst : starEach (e :: es) X.env = (false, eval e X.env) :: starEach es X.env := by rfl) (hpl : (backTo pos (starEach es X.env)).any (·.1) = false := by rfl)
    (ht : eval (.Call (.Attribute o m apos) (e :: es) [] pos) X.env = (do
      let ov ← eval o X.env
      standAt apos.atName
      let (f, first) ← holding [ov] (getMethod ov m pl)
      callWith pos f first (backTo pos (starEach (e :: es) X.env)) (backToKw pos (keywordEach [] X.env))) := by rfl) :
    PE X (.Call (.Attribute o m apos) (e :: es) [] pos) (tMethN C m sp dvs E0 ta t) := by rw [tMethN_eq]; exact pc_meth he c hm F hr ha hst hpl ht
end
section
variable {σ : St} {H : Hp} {Q : VK} {D : Ends} {K : PySem.W.Frag}
theorem r_callN {sp : Sp} {dvs : List V} {E : XK} {t : TA} (h : t σ H fun vs H1 => withD sp (vs ++ dvs) H1 Q E) : tCallN sp dvs E t σ H Q := h
theorem r_wd {sp : Sp} {vs ws : List V} {E : XK} (e : vs = ws) (h : sp ws H Q E) : withD sp vs H Q E := ⟨ws, e, h⟩
theorem r_methN {C : Addr} {m : Str} {sp : Sp} {dvs : List V} {E : XK} {ta : TE} {t : TA} (h : ta σ H fun x H1 => ∃ a dx fs, x = .ref a ∧ H1 a = some (.ins C dx fs) ∧ fs.lookup m = none ∧ t σ H1 fun vs H2 => withD sp (x :: (vs ++ dvs)) H2 Q E) : tMethN C m sp dvs E ta t σ H Q := h
theorem r_makeN {C : Addr} {sp : Sp} {dvs : List V} {E : XK} {t : TA} (h : t σ H fun vs H1 => MakeP C sp (vs ++ dvs) H1 Q E) : tMakeN C sp dvs E t σ H Q := h
theorem r_truB {b : Bool} {R : Bool → Prop} (h : R b) : ∃ k, TruV K (.bl b) H k ∧ R k := ⟨b, rfl, h⟩
end
end L2

namespace L2
open PySem PySem.Spec PyProof.Rows
theorem len64 {n : Nat} (h : Nat.ble n 64 = true) : n ≤ sizeLine := Nat.le_trans (Nat.le_of_ble_eq_true h) (by decide)
end L2

namespace L2
open PySem PySem.Spec PyProof.Rows
def RetD (H : Hp) (Q : VK) (d : PyData) : Prop := ∀ v H', Same H H' → Dv H' v d → Q v H'
end L2

namespace L2
open PySem PySem.Spec PyProof.Rows
section
variable {X : Cx} {st : Stmt} {rest : List Stmt}
def tCutM (t u : TS) : TS := tCut t u
end
section
variable {σ : St} {H : Hp} {Q : VK} {D : Ends} {K : PySem.W.Frag}
def ForL (K : PySem.W.Frag) (x : V) (g : TG) (tb : TS) (D : Ends) (σ : St) (H1 : Hp) : Prop := ∃ a, x = .ref a ∧ (∃ xs, SqL K H1 a xs) ∧ ∃ W : Nat → Nat → St → Hp → Prop, (∃ m, W 0 m σ H1) ∧ ∀ i m σ H, W i m σ H →
      ((Itl K a).stop i H ∧ D.nx σ H) ∨ ((Itl K a).go i H ∧ ∃ N : St → Hp → Prop, (∀ σ' H', N σ' H' → ∃ m', m' < m ∧ W (i + 1) m' σ' H') ∧ ∀ x H', (Itl K a).yld i H x H' → g x σ H' fun σ2 H2 => tb { D with nx := N, ct := N, bk := D.nx } σ2 H2)
theorem r_for {tl : TE} {g : TG} {tb : TS} (h : tl σ H fun x H1 => ForL K x g tb D σ H1) : tFor (iList K tl) g tb D σ H := h
theorem forL {a : Addr} {xs : List V} {g : TG} {tb : TS} (hl : SqL K H a xs) (Pv : Nat → St → Hp → Prop) (h0 : Pv 0 σ H) (hk : ∀ i σ H, i ≤ xs.length → Pv i σ H → SqL K H a xs)
    (hs : ∀ i x σ H, xs[i]? = some x → Pv i σ H → g x σ H fun σ2 H2 => tb { D with nx := Pv (i + 1), ct := Pv (i + 1), bk := D.nx } σ2 H2) (hd : ∀ σ H, Pv xs.length σ H → D.nx σ H) : ForL K (.ref a) g tb D σ H :=
  ⟨a, rfl, ⟨xs, hl⟩, for_list Pv h0 hk hs hd⟩
def ForR (lo : Int) (n : Nat) (g : TG) (tb : TS) (D : Ends) (σ : St) (H1 : Hp) : Prop := ∃ W : Nat → Nat → St → Hp → Prop, (∃ m, W 0 m σ H1) ∧ ∀ i m σ H, W i m σ H →
      ((Itr lo n).stop i H ∧ D.nx σ H) ∨ ((Itr lo n).go i H ∧ ∃ N : St → Hp → Prop, (∀ σ' H', N σ' H' → ∃ m', m' < m ∧ W (i + 1) m' σ' H') ∧ ∀ x H', (Itr lo n).yld i H x H' → g x σ H' fun σ2 H2 => tb { D with nx := N, ct := N, bk := D.nx } σ2 H2)
end
end L2
namespace L2
open PySem PySem.Spec PyProof.Rows
end L2
namespace L2
open PySem PySem.Spec PyProof.Rows
section
variable {X : Cx}
def rMinP : List V → Hp → VK → Prop := fun xs H Q => ∃ i j, xs = [.int i, .int j] ∧ ∀ k, (k = i ∨ k = j) → k ≤ i → k ≤ j → Q (.int k) H
def rMaxP : List V → Hp → VK → Prop := fun xs H Q => ∃ i j, xs = [.int i, .int j] ∧ ∀ k, (k = i ∨ k = j) → i ≤ k → j ≤ k → Q (.int k) H
def rModP : R2 := fun x y H Q => ∃ i j, x = .int i ∧ y = .int j ∧ 0 < j ∧ (0 ≤ i % j → i % j < j → Q (.int (i % j)) H)
theorem op_modP : OpR X (binaryOp .Mod) rModP := fun pins s σ H x y v u Q I rx ry ⟨i, j, e1, e2, hj, h⟩ => op_mod pins s σ H x y v u Q I rx ry ⟨i, j, e1, e2, hj, h (Int.emod_nonneg _ (by omega)) (Int.emod_lt_of_pos _ hj)⟩
end
section
variable {σ : St} {H : Hp} {Q : VK} {D : Ends} {K : PySem.W.Frag}
theorem r_modP {i j : Int} (hj : 0 < j) (h : 0 ≤ i % j → i % j < j → Q (.int (i % j)) H) : rModP (.int i) (.int j) H Q := ⟨i, j, rfl, rfl, hj, h⟩
end
end L2
namespace L2
open PySem PySem.Spec PyProof.Rows
end L2
namespace L2
open PySem PySem.Spec PyProof.Rows
section
variable {σ : St} {H : Hp} {Q : VK} {D : Ends} {K : PySem.W.Frag}
def WTurn (Pv : Nat → St → Hp → Prop) (m : Nat) (tb : TS) (D : Ends) (σ : St) (H1 : Hp) : Prop := ∃ N : St → Hp → Prop, (∀ σ' H', N σ' H' → ∃ m', m' < m ∧ Pv m' σ' H') ∧ tb { D with nx := N, ct := N, bk := D.nx } σ H1
theorem r_turn {Pv : Nat → St → Hp → Prop} {m : Nat} {tb : TS} (h : tb { D with nx := fun σ' H' => ∃ m', m' < m ∧ Pv m' σ' H', ct := fun σ' H' => ∃ m', m' < m ∧ Pv m' σ' H', bk := D.nx } σ H) : WTurn Pv m tb D σ H := ⟨_, fun _ _ h => h, h⟩
theorem r_while {c : TT} {tb : TS} (Pv : Nat → St → Hp → Prop) (h0 : ∃ m, Pv m σ H) (hs : ∀ m σ H, Pv m σ H → c σ H fun b H1 => if b = true then WTurn Pv m tb D σ H1 else D.nx σ H1) : tWhile c tb D σ H := ⟨Pv, h0, hs⟩
end
end L2
namespace L2
theorem len1000 {n : Nat} (h : Nat.blt n 1000 = true) : n < 1000 := by
  unfold Nat.blt at h
  exact Nat.le_of_ble_eq_true h
end L2

namespace L2
open PySem PySem.Spec PyProof.Rows
section
variable {X : Cx}
def rIsB (f : Bool → Bool) : R2 := fun x y H Q => ∃ b c, x = .bl b ∧ y = .bl c ∧ Q (.bl (f (b == c))) H
def rStrI : List V → Hp → VK → Prop := fun xs H Q => ∃ i, xs = [.int i] ∧ i.natAbs.log2 < 1920 ∧ Q (.str (toString i)) H
end
section
variable {σ : St} {H : Hp} {Q : VK} {D : Ends} {K : PySem.W.Frag}
end
end L2
namespace L2
open PySem PySem.Spec PyProof.Rows
end L2
namespace L2
open PySem PySem.Spec PyProof.Rows
section
variable {X : Cx} {e : Expr}
def tOrE (t u : TE) : TE := fun σ H Q => t σ H Q ∨ u σ H Q
end
section
variable {σ : St} {H : Hp} {Q : VK} {D : Ends} {K : PySem.W.Frag}
def Unp2 (K : PySem.W.Frag) (x : V) (i j : Nat) (D : Ends) (σ : St) (H : Hp) : Prop := gTup K 2 (gCons (gName i) (gCons (gName j) gNil)) x σ H D.nx
end
end L2
namespace L2
end L2

namespace L2
open PySem PySem.Spec PyProof.Rows PySem.W
structure Swo (lt : Nat → Nat → Bool) : Prop where
  irr : ∀ a, lt a a = false
  asy : ∀ a b, lt a b = true → lt b a = false
  ntr : ∀ a b c, lt a b = false → lt b c = false → lt a c = false
section
variable {lt : Nat → Nat → Bool} {n : Nat} {S : Shared → Prop} {cmp : Nat → Nat → (Bool → Shared → Prop) → Shared → Prop}
def Up (lt : Nat → Nat → Bool) (p : Array Nat) (k : Nat) : Prop := ∀ i j, i < j → j < k → lt (p.getD j 0) (p.getD i 0) = false
def Down (lt : Nat → Nat → Bool) (p : Array Nat) (k : Nat) : Prop := ∀ i j, i < j → j < k → lt (p.getD i 0) (p.getD j 0) = false
def Alike (lt : Nat → Nat → Bool) (p : Array Nat) (a b : Nat) : Prop := ∀ i j, a ≤ i → i < b → a ≤ j → j < b → lt (p.getD i 0) (p.getD j 0) = false
structure Ix (n : Nat) (p : Array Nat) : Prop where
  sz : p.size = n
  pm : p.toList.Perm (List.range n)
def Asks (n : Nat) (lt : Nat → Nat → Bool) (S : Shared → Prop) (cmp : Nat → Nat → (Bool → Shared → Prop) → Shared → Prop) : Prop :=
  ∀ i j C s, i < n → j < n → S s → (∀ s', S s' → C (lt i j) s') → cmp i j C s
variable (w : Swo lt) (ha : Asks n lt S cmp)
include w ha
end
end L2

namespace L2
open PySem PySem.Spec PyProof.Rows PySem.W
section
variable {X : Cx} {pins : List (Addr × Obj)} {σ : St} {H H' : Hp} {s : Shared} {a : Addr}
end
def ltS (a b : Str) : Bool := decide (a.cps.toList < b.cps.toList)
def ltIS (a b : Int × Str) : Bool := decide (a.1 < b.1) || (decide (a.1 = b.1) && ltS a.2 b.2)
theorem ltS_ntr {a b c : Str} (h : ltS a b = false) (h2 : ltS b c = false) : ltS a c = false := by
  unfold ltS at *
  have h1' : b.cps.toList ≤ a.cps.toList := List.not_lt.mp (of_decide_eq_false h)
  have h2' : c.cps.toList ≤ b.cps.toList := List.not_lt.mp (of_decide_eq_false h2)
  exact decide_eq_false (List.not_lt.mpr (List.le_trans h2' h1'))
section
variable {prog : Program} {w : World} {A : Around} {E : Value → Shared → Prop} {s : Shared}
end
end L2

namespace L2
open PySem PySem.Spec PyProof.Rows PySem.W
def KeyRun (sp : Sp) (kf : V → Int × Str) (H : Hp) (xs : List V) : Prop := ∀ v ∈ xs, ∀ H', Same H H' → sp [v] H' (fun y H2 => Same H' H2 ∧ Dv H2 y (.tuple [.int (kf v).1, .str (kf v).2])) E0
def InOrder {α : Type} (lt : α → α → Bool) (kf : V → α) (ys xs : List V) : Prop := ys.Perm xs ∧ ys.Pairwise fun x y => lt (kf y) (kf x) = false
section
variable {X : Cx} {pins : List (Addr × Obj)} {σ : St} {H : Hp} {s : Shared} {k : Nat} {f : Addr} {fd : FuncData} {ps : List Str} {sp : Sp} {kf : V → Int × Str} {A : Around}
structure Keys (X : Cx) (pins : List (Addr × Obj)) (σ : St) (H : Hp) (kf : V → Int × Str) (a kS : Addr) (oa : Obj) (xs : List V) (s' : Shared) : Prop where
  mk ::
  ex : ∃ H' us e ys, Inv X pins σ H' s' ∧ Same H H' ∧ H' a = none ∧ H' kS = none ∧ s'.heap.get? a = some oa ∧ s'.heap.get? kS = some (seqObj "list" (List.toArray us) e) ∧ Vals ys us ∧ Dvs H' ys (xs.map fun v => .tuple [.int (kf v).1, .str (kf v).2])
def SortFin (X : Cx) (pins : List (Addr × Obj)) (σ : St) (H : Hp) {α : Type} (lt : α → α → Bool) (kf : V → α) (xs : List V) (Q : VK) : Prop :=
  ∀ a ys H', Same H H' → H a = none → H' a = none → InOrder lt kf ys xs → Q (.ref a) (upd H' a (.lst ys))
end
end L2

namespace L2
open PySem PySem.Spec PyProof.Rows PySem.W
section
variable {X : Cx} {pins : List (Addr × Obj)} {σ : St} {H : Hp} {s : Shared} {k : Nat} {f : Addr} {fd : FuncData} {ps : List Str} {sp : Sp} {kf : V → Int × Str} {A : Around}
end
end L2

namespace L2
open PySem PySem.Spec PyProof.Rows PySem.W
def SortKP (sp : Sp) (K : PySem.W.Frag) (vs : List V) (H : Hp) (Q : VK) : Prop := ∃ a xs kf, vs = [.ref a] ∧ SqL K H a xs ∧ xs.length < 64 ∧ KeyRun sp kf H xs ∧ ∀ l ys H', Same H H' → H l = none → H' l = none → InOrder ltIS kf ys xs → Q (.ref l) (upd H' l (.lst ys))
def tSortK (K : PySem.W.Frag) (sp : Sp) (t : TA) : TE := fun σ H Q => t σ H fun vs H1 => SortKP sp K vs H1 Q
section
variable {X : Cx} {k : Nat} {f : Addr} {ps : List Str} {sp : Sp} {e : Expr} {t : TA} {x : Str} {p p2 pos kpos : Pos}
end
end L2

namespace L2
open PySem PySem.Spec PyProof.Rows
theorem closure_ok {scope : Scope} {env : Env} (h : ∀ x ∈ scope.names, x.2 = .free → ∃ c, env.cells.lookup x.1 = some c) :
    ∃ cl, closureFor scope env = pure cl ∧ (∀ x c, cl.lookup x = some c → env.cells.lookup x = some c) ∧ ∀ x ∈ scope.names, x.2 = .free → ∃ c, cl.lookup x.1 = some c := by
  have key : ∀ (l : List (Str × NameKind)) (acc : List (Str × Addr)), (∀ x ∈ l, x.2 = .free → ∃ c, env.cells.lookup x.1 = some c) → (∀ x c, acc.lookup x = some c → env.cells.lookup x = some c) →
      ∃ cl, (forIn l acc (fun (x : Str × NameKind) (r : List (Str × Addr)) => (match x with
        | (name, kind) => if (kind == NameKind.free) = true then (do let c ← cellOf env name; pure (ForInStep.yield ((name, c) :: r))) else pure (ForInStep.yield r) : Sem (ForInStep (List (Str × Addr))))) : Sem _) = pure cl ∧
        (∀ x c, cl.lookup x = some c → env.cells.lookup x = some c) ∧ (∀ x ∈ l, x.2 = .free → ∃ c, cl.lookup x.1 = some c) ∧ ∀ x, (∃ c, acc.lookup x = some c) → ∃ c, cl.lookup x = some c := by
    intro l
    induction l with
    | nil => intro acc _ ha; exact ⟨acc, rfl, ha, fun _ z => (nomatch z), fun _ z => z⟩
    | cons p r ih =>
      intro acc hl ha
      obtain ⟨n, k⟩ := p
      rw [List.forIn_cons]
      by_cases hk : k = .free
      · subst hk
        obtain ⟨c, hc⟩ := hl (n, .free) List.mem_cons_self rfl
        have hcell : cellOf env n = pure c := by unfold cellOf; rw [hc]
        obtain ⟨cl, e, h1, h2, h3⟩ := ih ((n, c) :: acc) (fun x hx => hl x (List.mem_cons_of_mem _ hx)) (fun x d hd => by
          rw [List.lookup_cons] at hd
          by_cases hx : x = n
          · subst hx; rw [beq_self_eq_true] at hd; cases hd; exact hc
          · rw [beq_eq_false_iff_ne.mpr hx] at hd; exact ha x d hd)
        refine ⟨cl, ?_, h1, fun x hx hf => ?_, fun x ⟨d, hd⟩ => h3 x ?_⟩
        · simp only [beq_self_eq_true, if_true, hcell]
          exact e
        · rcases List.mem_cons.mp hx with rfl | hx
          · exact h3 n ⟨c, by rw [List.lookup_cons, beq_self_eq_true]⟩
          · exact h2 x hx hf
        · rw [List.lookup_cons]
          by_cases hx : x = n
          · subst hx; rw [beq_self_eq_true]; exact ⟨c, rfl⟩
          · rw [beq_eq_false_iff_ne.mpr hx]; exact ⟨d, hd⟩
      · obtain ⟨cl, e, h1, h2, h3⟩ := ih acc (fun x hx => hl x (List.mem_cons_of_mem _ hx)) ha
        refine ⟨cl, ?_, h1, fun x hx hf => ?_, h3⟩
        · have : (k == NameKind.free) = false := by simpa using hk
          simp only [this, Bool.false_eq_true, if_false]
          exact e
        · rcases List.mem_cons.mp hx with rfl | hx
          · exact absurd hf hk
          · exact h2 x hx hf
  obtain ⟨cl, e, h1, h2, _⟩ := key scope.names [] h (fun _ _ z => by simp at z)
  refine ⟨cl, ?_, h1, h2⟩
  unfold closureFor
  show (forIn scope.names [] _ >>= fun cs => pure cs) = _
  refine Eq.trans (congrArg (· >>= _) e) rfl
end L2
namespace L2
open PySem PySem.Spec PyProof.Rows
theorem relabel_look {env : Env} {scope : Scope} {x : Str} : (relabel scope env).names.lookup x = (scope.names.lookup x).map fun k => if (k == NameKind.free && env.scope.kind == .function && env.kindOf x == some .cell) = true then .cell else k := by
  unfold relabel
  show List.lookup x (List.map _ scope.names) = _
  generalize scope.names = l
  induction l with
  | nil => rfl
  | cons p r ih =>
    obtain ⟨n, k⟩ := p
    rw [List.map_cons]
    dsimp only
    by_cases hx : x = n
    · subst hx
      by_cases hc : (k == NameKind.free && env.scope.kind == .function && env.kindOf x == some .cell) = true
      · rw [if_pos hc, List.lookup_cons, List.lookup_cons, beq_self_eq_true]; simp only [Option.map_some, if_pos hc]
      · rw [if_neg hc, List.lookup_cons, List.lookup_cons, beq_self_eq_true]; simp only [Option.map_some, if_neg hc]
    · have hb : (x == n) = false := beq_eq_false_iff_ne.mpr hx
      by_cases hc : (k == NameKind.free && env.scope.kind == .function && env.kindOf n == some .cell) = true
      · rw [if_pos hc, List.lookup_cons, List.lookup_cons, hb]; exact ih
      · rw [if_neg hc, List.lookup_cons, List.lookup_cons, hb]; exact ih
theorem mem_lookup {α : Type} {x : Str} {k : α} : ∀ {l : List (Str × α)}, l.lookup x = some k → (x, k) ∈ l
  | [], h => by simp at h
  | (n, j) :: r, h => by
    rw [List.lookup_cons] at h
    by_cases hx : x = n
    · subst hx; rw [beq_self_eq_true] at h; cases h; exact List.mem_cons_self
    · rw [beq_eq_false_iff_ne.mpr hx] at h; exact List.mem_cons_of_mem _ (mem_lookup h)
def cxLC (X : Cx) (N : List Str) (scope : Scope) (cl : List (Str × Addr)) (C : Addr) (s : Shared) (H : Hp) (fp : List Addr) : Cx :=
  { X with N := N, s₀ := s, H₀ := H, env := compEnvC scope cl C X.env, outer := X.stack, stack := X.stack, ex := fp, fn := fun _ => false, pn := [], xe := fun _ _ => False }
structure LCNames (X : Cx) (T M : List Str) (scope : Scope) : Prop where
  kind : scope.kind = .function
  cell : ∀ y ∈ scope.names, y.2 ≠ .cell
  names : ∀ y ∈ scope.names, y.2 = .local → scope.names.lookup y.1 = some .local
  free : ∀ y ∈ scope.names, y.2 = .free → X.env.scope.names.lookup y.1 = some .cell ∨ X.env.scope.names.lookup y.1 = some .free
  len : M.length = X.N.length
  old : ∀ (i : Nat) x, M[i]? = some x → X.N[i]? = some x ∧ scope.names.lookup x = some .free ∨ scope.names.lookup x = none
section
variable {X : Cx} {pins : List (Addr × Obj)} {σ : St} {H : Hp} {s : Shared} {T M : List Str} {scope : Scope} {cl : List (Str × Addr)} {fp : List Addr}
theorem lc_ok {C : Addr} (I : Inv X pins σ H s) (hN : LCNames X T M scope) (h1 : ∀ x c, cl.lookup x = some c → X.env.cells.lookup x = some c) (h2 : ∀ x ∈ scope.names, x.2 = .free → ∃ c, cl.lookup x.1 = some c)
    (hC : s.heap.objs.size ≤ C) (hf : ∀ b ∈ fp, FpOk X pins H b) (hfe : ∀ b ∈ fp, b < s.heap.objs.size) : (cxLC X (T ++ M) scope cl C s H fp).Ok where
  mod := I.ok.mod
  kind := hN.kind
  glob := I.ok.glob
  blt := I.ok.blt
  above := hC
  inj := fun x y c e1 e2 => I.ok.inj x y c (h1 x c e1) (h1 y c e2)
  has := fun x hx => by
    have hx' : (relabel scope X.env).names.lookup x = some .cell ∨ (relabel scope X.env).names.lookup x = some .free := hx
    rw [relabel_look] at hx'
    cases e : scope.names.lookup x with
    | none => rw [e] at hx'; simp at hx'
    | some k =>
      have hm := mem_lookup e
      have hk : k = .free := by
        rw [e] at hx'
        simp only [Option.map_some, Option.some.injEq] at hx'
        by_cases hf : k = .free
        · exact hf
        · have : (k == NameKind.free) = false := by simpa using hf
          simp only [this, Bool.false_and, Bool.false_eq_true, if_false] at hx'
          rcases hx' with hx' | hx'
          · exact absurd hx' (hN.cell _ hm)
          · exact hx'
      exact h2 (x, k) hm hk
  cab := fun _ _ z => by cases z
  hd := I.ok.hd
  frames := I.ok.frames
  stk := .inl rfl
  exf := fun b hb => ⟨Nat.ne_of_lt (Nat.lt_of_lt_of_le (hfe b hb) hC), fun x c e => (hf b hb).2.2.2.2.1 x c (h1 x c e)⟩
  bs := I.bs
  bsz := Nat.le_trans I.ok.bsz I.sz
  noex := fun b o e hb => by
    rcases (hf b hb).2.2.2.1 with z | z
    · exact I.ok.noex b o e z
    · exact absurd (Nat.lt_of_lt_of_le (Heap.lt_size e) (Nat.le_trans I.ok.bsz z)) (Nat.lt_irrefl _)
  exfs := fun b hb z => by
    rcases List.mem_cons.mp (I.stkSub b z) with e | e
    · exact (hf b hb).2.1 e
    · exact (hf b hb).2.2.1 e
  funs := I.stack
  frf := I.stkFree
theorem lc_start {C : Addr} {h₁ : Heap} {tk : Nat} (I : Inv X pins σ H s) (hN : LCNames X T M scope) (h1 : ∀ x c, cl.lookup x = some c → X.env.cells.lookup x = some c) (h2 : ∀ x ∈ scope.names, x.2 = .free → ∃ c, cl.lookup x.1 = some c)
    (hC : s.heap.objs.size ≤ C) (hf : ∀ b ∈ fp, FpOk X pins H b) (hfe : ∀ b ∈ fp, b < s.heap.objs.size)
    {m : Str → Option Value} (hn : h₁.Ns C m) (old : ∀ b o, s.heap.get? b = some o → h₁.get? b = some o) :
    Inv (cxLC X (T ++ M) scope cl C s H fp) [] (List.replicate T.length none ++ σ) H { s with heap := h₁, toks := tk } where
  ok := lc_ok I hN h1 h2 hC hf hfe
  os := rfl
  bare := I.bare
  base := Un.kept old
  loc := by
    refine ⟨m, hn, fun i x v e1 e2 e3 => ?_⟩
    have e1' : (T ++ M)[i]? = some x := e1
    by_cases hi : i < T.length
    · rw [List.getElem?_append_left (by simpa using hi), List.getElem?_replicate, if_pos hi] at e2
      cases e2
    · have hi' : T.length ≤ i := Nat.le_of_not_lt hi
      rw [List.getElem?_append_right hi'] at e1'
      rw [List.getElem?_append_right (by simpa using hi'), List.length_replicate] at e2
      have vis : Vis (relabel scope X.env) x := e3
      rcases hN.old _ x e1' with ⟨hx, hfr⟩ | hno
      · obtain ⟨m0, hn0, hl0⟩ := I.loc
        have hk := hN.free _ (mem_lookup hfr) rfl
        have hk' : X.env.scope.names.lookup x = some .cell ∨ X.env.scope.names.lookup x = some .free := hk
        obtain ⟨u, r, l⟩ := hl0 _ x v hx e2 (.inr hk')
        refine ⟨u, r, .inr ?_⟩
        rcases l with ⟨z, _⟩ | ⟨_, c, hc, hcell⟩
        · have z' : X.env.scope.names.lookup x = some .local := z
          rw [z'] at hk'; rcases hk' with q | q <;> cases q
        · obtain ⟨c', hc'⟩ := h2 _ (mem_lookup hfr) rfl
          have : c' = c := by have := h1 _ _ hc'; rw [hc] at this; exact (Option.some.inj this).symm
          subst this
          refine ⟨?_, c', hc', ?_⟩
          · show (relabel scope X.env).names.lookup x = some .cell ∨ (relabel scope X.env).names.lookup x = some .free
            rw [relabel_look, hfr]
            simp only [Option.map_some, Option.some.injEq]
            by_cases hc : (NameKind.free == NameKind.free && X.env.scope.kind == .function && X.env.kindOf x == some .cell) = true
            · left; rw [if_pos hc]
            · right; rw [if_neg hc]
          · obtain ⟨o, ho, hd⟩ := hcell
            exact ⟨o, old _ _ ho, hd⟩
      · unfold Vis at vis
        rw [relabel_look, hno] at vis
        simp at vis
  cell := fun x c e => by
    obtain ⟨v, o, ho, hd⟩ := I.cell x c (h1 x c e)
    exact ⟨v, o, old _ _ ho, hd⟩
  free := I.hok.fresh hC
  freeC := fun x c e => I.freeC x c (h1 x c e)
  pin := fun p hp => nomatch hp
  hok := I.hok.kept old
  len := by
    show (List.replicate T.length none ++ σ).length = (T ++ M).length
    rw [List.length_append, List.length_append, List.length_replicate, hN.len, I.len]
theorem lc_back {C D : Addr} {s' : Shared} {σ' : St} {H' : Hp} {acc : List V} {its : List Value} {n : Nat} (I : Inv X pins σ H s) (I' : Inv (cxLC X (T ++ M) scope cl C s H fp) [] σ' H' s')
    (hf : ∀ b ∈ fp, FpOk X pins H b) (hD : s.heap.objs.size ≤ D) (hn : H' D = none) (hl : acc.length ≤ sizeLine) (r : Vals acc its) (hd : s'.heap.get? D = some { cls := .type "list", data := .seq its.toArray n }) :
    Inv X pins σ (upd H' D (.lst acc)) s' := by
  have U : Un (frs X.stack) fp H H' s.heap s'.heap := I'.base
  have neD : ∀ b o, s.heap.get? b = some o → b ≠ D := fun b o e => Nat.ne_of_lt (Nat.lt_of_lt_of_le (Heap.lt_size e) hD)
  have neT : ∀ b u, H' b = some u → b ≠ D := fun b u e => ne_of_none e hn
  refine I.call' (ch := fp) I'.os ⟨U.keep, U.slot, fun b o e1 e2 e3 => ?_, U.there, fun b xs e => ?_, fun b o u e => ?_, fun b ps e => ?_⟩ (fun b u e => ?_) I'.bare (fun b hb => ⟨(hf b hb).2.2.2.1, (hf b hb).2.1, (hf b hb).2.2.2.2.1, (hf b hb).2.2.2.2.2⟩)
  · rw [upd_ne (neD b o e1)]; exact U.free b o e1 e2 e3
  · rw [upd_ne (neT b _ (U.tups b xs e))]; exact U.tups b xs e
  · rw [upd_ne (neT b _ (U.frzs b o u e))]; exact U.frzs b o u e
  · obtain ⟨more, q⟩ := U.tbls b ps e
    exact ⟨more, by rw [upd_ne (neT b _ q)]; exact q⟩
  · by_cases hb : b = D
    · subst hb
      rw [upd_same] at e
      cases e
      exact ⟨hl, its, n, r, hd⟩
    · rw [upd_ne hb] at e
      exact (I'.hok b u e).stay (fun c v _ q => q) (fun c q => by rw [upd_ne (neT c _ q)]; exact q) fun c xs q => by rw [upd_ne (neT c _ q)]; exact q
end
end L2

namespace L2
open PySem PySem.Spec PyProof.Rows
theorem codeAny_lc {prog : Program} {w : World} {A : Around} {R : Result → Shared → Prop} {s : Shared} {elt target iter : Expr} {ifs : List Expr} {scope : Scope} {pos : Pos} {it acc : Value} {env : Env} (I : Nat → Shared → Prop)
    (turn : ∀ n s, I n s → wpAny (model prog w) A (pyNext it) (fun r s₁ => match r with
      | none => R (.ok .next) s₁
      | some v => wpAny (model prog w) A (letOwnedTupleGo target it v) (fun _ s₁' => wpAny (model prog w) A (assign target env v) (fun _ s₂ =>
          wpAny (model prog w) A (forIn ifs true fun c r => if r = true then do let ok ← isTrue c env (eval c env); pure (ForInStep.yield ok) else pure (ForInStep.yield r)) (fun ok s₃ =>
            if ok = true then wpAny (model prog w) A (eval elt env) (fun x s₄ =>
              wpAny (model prog w) A (call (.builtin "list.append") [acc, x]) (fun _ s₅ => ∃ m, m < n ∧ I m s₅) (fun _ _ => False) s₄) (fun _ _ => False) s₃
            else ∃ m, m < n ∧ I m s₃) (fun _ _ => False) s₂) (fun _ _ => False) s₁') (fun _ _ => False) s₁) (fun _ _ => False) s)
    (n : Nat) (h : I n s) :
    codeAny (model prog w) A (.compLoop (.ListComp elt [⟨target, iter, ifs, 0⟩] scope pos) 0 it acc env) R s := by
  refine codeAny_loop rfl I (fun n s hI => ?_) n h
  show wpAny _ A ((compTurn (.ListComp elt [⟨target, iter, ifs, 0⟩] scope pos) 0 it acc env).onRaise (fun x => do noteFrame x env; theTreesLotGoes x)) _ _ s
  refine wpAny_noted ?_
  rw [compTurn_list]
  refine wpAny_bind (wpAny_standAt (wpAny_bind (wpAny_mono (turn n s hI) (fun r s₁ h₁ => ?_) fun _ _ h' => h'.elim)))
  cases r with
  | none => exact wpAny_pure h₁
  | some v =>
    refine wpAny_bind (wpAny_mono h₁ (fun _ s₁' h₁' => ?_) fun _ _ h' => h'.elim)
    refine wpAny_bind (wpAny_mono h₁' (fun _ s₂ h₂ => wpAny_bind (wpAny_mono h₂ (fun ok s₃ h₃ => ?_) fun _ _ h' => h'.elim)) fun _ _ h' => h'.elim)
    cases ok with
    | false => exact wpAny_pure ⟨rfl, h₃⟩
    | true =>
      exact wpAny_bind (wpAny_bind (wpAny_mono h₃ (fun x s₄ h₄ => wpAny_bind (wpAny_mono h₄ (fun _ s₅ h₅ => wpAny_pure (wpAny_pure ⟨rfl, h₅⟩)) fun _ _ h' => h'.elim)) fun _ _ h' => h'.elim))
def PIf (X : Cx) (ifs : List Expr) (t : TT) : Prop :=
  ∀ (pins : List (Addr × Obj)) (s : Shared) (σ : St) (H : Hp) (Q : Bool → Hp → Prop), Inv X pins σ H s → t σ H Q →
    wpAny (model X.prog X.w) X.A (forIn ifs true fun c r => if r = true then do let ok ← isTrue c X.env (eval c X.env); pure (ForInStep.yield ok) else pure (ForInStep.yield r)) (TP X pins σ Q) X.xe s
def tYes : TT := fun _ H Q => Q true H
theorem pif_nil {X : Cx} : PIf X [] tYes := fun _ _ _ H _ I h => wpAny_tests_nil ⟨H, I, h⟩
theorem pif_one {X : Cx} {c : Expr} {t : TT} (h : PT X c t) : PIf X [c] t := fun pins s σ H Q I q => wpAny_tests_one (h pins s σ H Q I q)
def LCW (k : Nat) (g : TG) (tc : TT) (te : TE) (Fin : List V → Hp → Prop) (σ : St) (J : It) (H1 : Hp) : Prop :=
  ∃ W : Nat → Nat → List V → Hp → Prop, (∃ m, W 0 m [] H1) ∧ ∀ i m acc H, W i m acc H →
    (J.stop i H ∧ Fin acc H) ∨ (J.go i H ∧ acc.length < sizeLine ∧ ∀ x H', J.yld i H x H' → g x (List.replicate k none ++ σ) H' fun σ2 H2 => tc σ2 H2 fun b H3 =>
      if b = true then te σ2 H3 fun y H4 => ∃ m', m' < m ∧ W (i + 1) m' (acc ++ [y]) H4 else ∃ m', m' < m ∧ W (i + 1) m' acc H3)
section
variable {X : Cx} {pins : List (Addr × Obj)} {σ : St} {H : Hp} {s : Shared} {T M : List Str} {scope : Scope} {cl : List (Str × Addr)} {fp : List Addr} {g : TG} {tc : TT} {te : TE} {tg elt iter : Expr} {ifs : List Expr} {pos : Pos}
theorem Inv.forget {X : Cx} {pins : List (Addr × Obj)} {σ σ' : St} {H : Hp} {s : Shared} (I : Inv X pins σ' H s) (k : Nat) (hk : k + σ.length = σ'.length) (h : σ'.drop k = σ) : Inv X pins (List.replicate k none ++ σ) H s := by
  refine I.weak (by simp [hk]) (fun i v e => ?_)
  by_cases hi : i < k
  · rw [List.getElem?_append_left (by simpa using hi), List.getElem?_replicate, if_pos hi] at e; cases e
  · rw [List.getElem?_append_right (by simpa using hi), List.length_replicate, ← h, List.getElem?_drop] at e
    have : k + (i - k) = i := by omega
    rw [this] at e; exact e
theorem lc_run {it : Addr} {tn : Nat → Heap → Prop} {J : It} {RR : Value → Addr → Result → Shared → Prop} {Fin : List V → Hp → Prop} {E : Value → Shared → Prop}
    (hN : LCNames X T M scope) (hcalm : X.calm = true) (h1 : ∀ x c, cl.lookup x = some c → X.env.cells.lookup x = some c) (h2 : ∀ x ∈ scope.names, x.2 = .free → ∃ c, cl.lookup x.1 = some c)
    (hg : ∀ cl C s H fp, PG (cxLC X (T ++ M) scope cl C s H fp) tg g) (hgk : ∀ v H Q, g v (List.replicate T.length none ++ σ) H Q → g v (List.replicate T.length none ++ σ) H fun σ2 H2 => Q σ2 H2 ∧ T.length + σ.length = σ2.length ∧ σ2.drop T.length = σ)
    (hc : ∀ cl C s H fp, PIf (cxLC X (T ++ M) scope cl C s H fp) ifs tc) (he : ∀ cl C s H fp, PE (cxLC X (T ++ M) scope cl C s H fp) elt te)
    (I : Inv X pins σ H s) (Tn : Turn X.prog X.w X.K tg J fp it tn) (st : tn 0 s.heap) (hf : ∀ b ∈ fp, FpOk X pins H b) (hW : LCW T.length g tc te Fin σ J H)
    (hR : ∀ D C s' H' acc m, s.heap.objs.size ≤ D → s.heap.objs.size ≤ C → C ≠ D → s'.heap.Ns C m → H' C = none → H' D = none → Inv X pins σ (upd H' D (.lst acc)) s' → Fin acc H' → RR (.ref D) C (.ok .next) s') :
    wpAny (model X.prog X.w) X.A (newList []) (fun acc s₃ => wpAny (model X.prog X.w) X.A (newFunctionEnv scope X.env.globals cl [] X.env.qual none .none (some X.env)) (fun cenv s₄ =>
      codeAny (model X.prog X.w) X.A (.compStart (.ListComp elt [⟨tg, iter, ifs, 0⟩] scope pos) 0 (.ref it) acc { cenv with scope := relabel scope X.env }) (RR acc cenv.locals) s₄) E s₃) E s := by
  refine wpAny_newObj_type (wpAny_newFunctionEnv hN.cell (by intro y hy; simp at hy) (fun h₁ hns₁ hsb₁ => ?_) hN.kind)
  dsimp only at hns₁ hsb₁ ⊢
  generalize hH2 : s.heap.push { cls := .type "list", dict := none, data := .seq ([] : List Value).toArray } = H2 at hns₁ hsb₁ ⊢
  have hC : H2.objs.size = s.heap.objs.size + 1 := by rw [← hH2, Heap.size_push]
  have hDC : s.heap.objs.size ≠ H2.objs.size := by rw [hC]; exact Nat.ne_of_lt (Nat.lt_succ_self _)
  have hCle : s.heap.objs.size ≤ H2.objs.size := by rw [hC]; exact Nat.le_succ _
  have hfe : ∀ b ∈ fp, b < s.heap.objs.size := fun b hb => by obtain ⟨o, ho, _⟩ := Tn.obj _ _ st b hb; exact Heap.lt_size ho
  have old : ∀ b o, s.heap.get? b = some o → h₁.get? b = some o := fun b o e => hsb₁.extBut b o (Nat.ne_of_lt (Nat.lt_of_lt_of_le (Heap.lt_size e) hCle)) (Heap.get?_push_of_some _ (hH2 ▸ Heap.get?_push_of_some _ e))
  have hacc : h₁.PlainList s.heap.objs.size #[] := ⟨_, hsb₁.extBut _ _ hDC (Heap.get?_push_of_some _ (hH2 ▸ Heap.get?_push_size _ rfl))⟩
  generalize hDe : s.heap.objs.size = D at *
  generalize hCe : H2.objs.size = C at *
  have I0 : Inv (cxLC X (T ++ M) scope cl C s H fp) [] (List.replicate T.length none ++ σ) H { s with heap := h₁, toks := s.toks + ([] : List (Str × Value)).length } :=
    lc_start I hN h1 h2 (by rw [hDe]; exact hCle) hf (by rw [hDe]; exact hfe) hns₁ old
  have st0 : tn 0 h₁ := Tn.keep _ _ _ st fun b _ o e => old b o e
  obtain ⟨W, ⟨m0, w0⟩, turn⟩ := hW
  have nDf : ∀ b ∈ fp, b ≠ D := fun b hb => Nat.ne_of_lt (hfe b hb)
  have stat : ∀ {H' : Hp} {pl : List (Addr × Obj)}, (∀ b ∈ fp, H' b = none) → (∀ p ∈ pl, p.1 = D) → ∀ b ∈ fp, FpOk (cxLC X (T ++ M) scope cl C s H fp) pl H' b := fun {H' pl} hn hp b hb => by
    have ok := I0.ok
    refine ⟨hn b hb, (ok.exf b hb).1, ok.exfs b hb, .inl hb, (ok.exf b hb).2, fun p hq => ?_⟩
    have hq' : p ∈ pl := hq
    rw [hp p hq']; exact Ne.symm (nDf b hb)
  have loop : codeAny (model X.prog X.w) X.A (.compLoop (.ListComp elt [⟨tg, iter, ifs, 0⟩] scope pos) 0 (.ref it) (.ref D) (compEnvC scope cl C X.env)) (RR (.ref D) C) { s with heap := h₁, toks := s.toks + ([] : List (Str × Value)).length } := by
    refine codeAny_lc (fun n s' => ∃ i acc H' its, Inv (cxLC X (T ++ M) scope cl C s H fp) [] (List.replicate T.length none ++ σ) H' s' ∧ tn i s'.heap ∧ (∀ b ∈ fp, H' b = none) ∧ s'.heap.PlainList D its ∧ H' D = none ∧ Vals acc its.toList ∧ acc.length ≤ sizeLine ∧ W i n acc H') ?_ m0
      ⟨0, [], H, #[], I0, st0, fun b hb => (hf b hb).1, hacc, I.hok.fresh (by rw [hDe]; exact Nat.le_refl _), .nil, Nat.zero_le _, w0⟩
    rintro n s3 ⟨i, acc, H3, its, I3, st3, fr3, ⟨nn, ho⟩, hD3, hv, hlen, w3⟩
    have pinD : ∀ {H'} {s'} {σ'} {o : Obj}, Inv (cxLC X (T ++ M) scope cl C s H fp) [] σ' H' s' → s'.heap.get? D = some o → (∀ v, o.data ≠ .cell v) → H' D = none → Inv (cxLC X (T ++ M) scope cl C s H fp) [(D, o)] σ' H' s' := fun {H' s' σ' o} I' e d hn => by
      refine I'.pins_of fun p hp => ?_
      have e' : p = (D, o) := by simpa using hp
      subst e'
      refine ⟨e, hn, hDC, fun z => ?_, d⟩
      have z' : D ∈ frs X.stack := z
      obtain ⟨_, o', ho', _⟩ := I.stack.mem z'
      exact absurd (Heap.lt_size ho') (by rw [hDe]; exact Nat.lt_irrefl _)
    have I3' := pinD I3 ho (fun v z => by cases z) hD3
    rcases turn i n acc H3 w3 with ⟨stop, fin⟩ | ⟨go, hl, step⟩
    · refine thn (Tn.done (cxLC X (T ++ M) scope cl C s H fp) rfl rfl rfl hcalm i _ s3 _ H3 _ I3' (stat fr3 (by simp)) st3 stop) fun r s4 ⟨hr, I4⟩ => ?_
      subst hr
      have e4 := (I4.pin (D, _) (List.mem_append_right _ List.mem_cons_self)).1
      have I4' : Inv (cxLC X (T ++ M) scope cl C s H fp) [] (List.replicate T.length none ++ σ) H3 s4 := I4.pins_of fun p hp => nomatch hp
      obtain ⟨m4, n4, _⟩ := I4'.loc
      exact hR D C s4 H3 acc m4 (Nat.le_refl _) hCle (Ne.symm hDC) n4 I4'.free hD3 (lc_back I I4' hf (by rw [hDe]; exact Nat.le_refl _) hD3 hlen hv (by simpa using e4)) fin
    · refine thn (Tn.item (cxLC X (T ++ M) scope cl C s H fp) rfl rfl rfl hcalm i _ s3 _ H3 _ I3' (stat fr3 (by simp)) st3 go) fun r s4 ⟨u, hr, h4⟩ => ?_
      subst hr
      refine thn h4 fun _ s5 ⟨x, H5, I5, r5, y5, st5, fr5⟩ => ?_
      have I5' := I5.pinned (stat fr5 (by simp)) (Tn.obj _ _ st5)
      refine thn (hg _ _ _ _ _ _ s5 _ H5 x u _ I5' r5 (hgk _ _ _ (step x H5 y5))) fun _ s6 ⟨σ6, H6, I6, q6, q6a, q6b⟩ => ?_
      refine thn (hc _ _ _ _ _ _ s6 σ6 H6 _ I6 q6) fun b s7 ⟨H7, I7, q7⟩ => ?_
      have rest : ∀ {s8 : Shared} {H8 : Hp}, Inv (cxLC X (T ++ M) scope cl C s H fp) ([(D, _)] ++ pinsAt fp s5.heap) σ6 H8 s8 → tn (i + 1) s8.heap ∧ (∀ b ∈ fp, H8 b = none) ∧ s8.heap.PlainList D its ∧ H8 D = none ∧ Inv (cxLC X (T ++ M) scope cl C s H fp) [] (List.replicate T.length none ++ σ) H8 s8 := fun {s8 H8} I8 => by
        refine ⟨Tn.keep _ _ _ st5 fun b hb o e => (I8.pin (b, o) (List.mem_append_right _ (List.mem_append_right _ (mem_pinsAt hb e)))).1, fun b hb => ?_, ⟨nn, (I8.pin (D, _) (List.mem_append_right _ (List.mem_append_left _ List.mem_cons_self))).1⟩, (I8.pin (D, _) (List.mem_append_right _ (List.mem_append_left _ List.mem_cons_self))).2.1, (I8.forget T.length q6a q6b).pins_of fun p hp => nomatch hp⟩
        obtain ⟨o, e, d⟩ := Tn.obj _ _ st5 b hb
        exact (I8.pin (b, o) (List.mem_append_right _ (List.mem_append_right _ (mem_pinsAt hb e)))).2.1
      cases b with
      | false =>
        obtain ⟨m', hm, w7⟩ := q7
        obtain ⟨a1, a2, a3, a4, a5⟩ := rest I7
        exact ⟨m', hm, i + 1, acc, H7, its, a5, a1, a2, a3, a4, hv, hlen, w7⟩
      | true =>
        refine thn (he _ _ _ _ _ _ s7 σ6 H7 _ I7 q7) fun y s8 ⟨yv, H8, I8, r8, m', hm, w8⟩ => ?_
        obtain ⟨a1, a2, a3, a4, a5⟩ := rest I8
        have hsz : its.size ≤ sizeLine := by have := hv.length; simp at this; omega
        refine wpAny_list_append_plain (hsz := hsz) a3 fun h9 hl9 hs9 => ?_
        refine ⟨m', hm, i + 1, acc ++ [yv], H8, its.push y, ?_, ?_, a2, hl9, a4, ?_, by simp; omega, w8⟩
        · exact a5.turned (t' := s8.toks) (it := D) (fun b o hb e => (hs9.2 b hb).trans e) a4 hDC (.inr (by show s.heap.objs.size ≤ D; rw [hDe]; exact Nat.le_refl _)) (fun x c e z => by
            obtain ⟨v, o, ho, _⟩ := I.cell x c (h1 x c e)
            exact absurd (Heap.lt_size ho) (by rw [hDe, z]; exact Nat.lt_irrefl _)) (fun p hp => nomatch hp)
        · exact Tn.keep _ _ _ a1 fun b hb o e => (hs9.2 b (nDf b hb)).trans e
        · simpa using Vals.append hv (.cons r8 .nil)
  exact codeAny_compStart_list loop (Tn.self _ _ _ _ _ st0 loop)
end
end L2

namespace L2
open PySem PySem.Spec PyProof.Rows
def GOwn (k : Nat) (g : TG) : Prop := ∀ v (τ σ : St) H Q, τ.length = k → g v (τ ++ σ) H Q → g v (τ ++ σ) H fun σ2 H2 => Q σ2 H2 ∧ ∃ τ', τ'.length = k ∧ σ2 = τ' ++ σ
def GsOwn (k : Nat) (g : TGs) : Prop := ∀ vs (τ σ : St) H Q, τ.length = k → g vs (τ ++ σ) H Q → g vs (τ ++ σ) H fun σ2 H2 => Q σ2 H2 ∧ ∃ τ', τ'.length = k ∧ σ2 = τ' ++ σ
theorem gown_name {k i : Nat} (h : i < k) : GOwn k (gName i) := fun v τ σ H Q hl q => by
  have e : (τ ++ σ).set i (some v) = τ.set i (some v) ++ σ := List.set_append_left _ _ (by omega)
  exact ⟨q, τ.set i (some v), by simp [hl], e⟩
def LCFin (Q : VK) (acc : List V) (H : Hp) : Prop := ∀ p, H p = none → Q (.ref p) (upd H p (.lst acc))
def tLC (k : Nat) (wi : TI) (g : TG) (tc : TT) (te : TE) : TE := fun σ H Q => wi σ H fun J H1 => LCW k g tc te (LCFin Q) σ J H1
section
variable {X : Cx} {T M : List Str} {scope : Scope} {g : TG} {tc : TT} {te : TE} {wi : TI} {tg elt iter : Expr} {ifs : List Expr} {pos : Pos}
theorem pe_lc (hN : LCNames X T M scope) (hcalm : X.calm = true) (hi : PI X tg iter wi) (hg : ∀ cl C s H fp, PG (cxLC X (T ++ M) scope cl C s H fp) tg g) (hgo : GOwn T.length g)
    (hc : ∀ cl C s H fp, PIf (cxLC X (T ++ M) scope cl C s H fp) ifs tc) (he : ∀ cl C s H fp, PE (cxLC X (T ++ M) scope cl C s H fp) elt te)
    (hs : ∀ x, foldedSetIterable iter X.env x = pure x := by intro _; rfl) : PE X (.ListComp elt [⟨tg, iter, ifs, 0⟩] scope pos) (tLC T.length wi g tc te) := by
  intro pins s σ H Q I h
  obtain ⟨cl, hcl, h1, h2⟩ := closure_ok (scope := scope) (env := X.env) fun x hx hf => I.ok.has x.1 (hN.free x hx hf)
  rw [eval_ListComp]
  refine wpAny_comprehension_free (use := none) rfl hs hcl hN.kind hN.names (thn (hi pins s σ H _ I h) fun xv s1 h1' => thn h1' fun itv s2 h2' => ?_)
  obtain ⟨it, fp, tn, J, H2, e, I2, Tn, st, hf, hW⟩ := h2'
  subst e
  refine lc_run (RR := fun acc C => compPost (model X.prog X.w) X.A X.xe none (EP X pins σ Q) acc C) hN hcalm h1 h2 hg (fun v H Q q => ?_) hc he I2 Tn st hf hW ?_
  · have := hgo v (List.replicate T.length none) σ H Q (by simp) q
    refine (by
      have e : (fun (σ2 : St) (H2 : Hp) => Q σ2 H2 ∧ T.length + σ.length = σ2.length ∧ σ2.drop T.length = σ) = fun σ2 H2 => Q σ2 H2 ∧ ∃ τ' : St, τ'.length = T.length ∧ σ2 = τ' ++ σ := by
        funext σ2 H2
        refine propext ⟨fun ⟨a, b, c⟩ => ⟨a, σ2.take T.length, by rw [List.length_take]; omega, by rw [← c, List.take_append_drop]⟩, fun ⟨a, τ', b, c⟩ => ⟨a, by rw [c, List.length_append, b], by rw [c, ← b, List.drop_left]⟩⟩
      rw [e]; exact this)
  · intro D C s' H' acc m hD hC hne hn hHC hHD Ib fin
    refine ⟨m, hn, fun h' hs' => ⟨.ref D, _, ?_, rfl, fin D hHD⟩⟩
    exact Ib.turned (t' := s'.toks) (it := C) (fun b o hb e => (hs'.2 b hb).trans e) (by rw [upd_ne hne]; exact hHC) (Nat.ne_of_gt (Nat.lt_of_lt_of_le I2.lt hC)) (.inr (Nat.le_trans I2.sz hC)) (fun x c e z => by
      obtain ⟨v, q⟩ := I2.cell x c e
      exact absurd (Nat.lt_of_lt_of_le q.lt (by rw [z]; exact hC)) (Nat.lt_irrefl _)) (fun p hp z => absurd (Nat.lt_of_lt_of_le (Heap.lt_size (I2.pin p hp).1) (by rw [z]; exact hC)) (Nat.lt_irrefl _))
end
end L2

namespace L2
open PySem PySem.Spec PyProof.Rows PySem.W
mutual
def Imm : PyData → Bool
  | .none => true
  | .bool _ => true
  | .int _ => true
  | .str _ => true
  | .tuple ds => ImmAll ds
  | .list _ => false
  | .dict _ => false
def ImmAll : List PyData → Bool
  | [] => true
  | d :: ds => Imm d && ImmAll ds
end
theorem immAll_iff : ∀ {ds : List PyData}, ImmAll ds = true ↔ ∀ d ∈ ds, Imm d = true
  | [] => by simp [ImmAll]
  | d :: ds => by simp [ImmAll, immAll_iff (ds := ds)]
theorem immAll_append {ds es : List PyData} (h1 : ImmAll ds = true) (h2 : ImmAll es = true) : ImmAll (ds ++ es) = true := by
  rw [immAll_iff] at *
  intro d hd
  rcases List.mem_append.mp hd with h | h
  · exact h1 d h
  · exact h2 d h
theorem immAll_map {α : Type} {f : α → PyData} (h : ∀ x, Imm (f x) = true) (xs : List α) : ImmAll (xs.map f) = true := by
  rw [immAll_iff]
  intro d hd
  obtain ⟨x, _, rfl⟩ := List.mem_map.mp hd
  exact h x
structure Mv (S : List Addr) (H H' : Hp) : Prop where
  kp : ∀ a o, a ∉ S → H a = some o → H' a = some o
  tp : ∀ a xs, H a = some (.tup xs) → H' a = some (.tup xs)
  dm : ∀ a, H' a = none → H a = none
theorem Mv.refl {S : List Addr} {H : Hp} : Mv S H H := ⟨fun _ _ _ h => h, fun _ _ h => h, fun _ h => h⟩
theorem Same.mv {S : List Addr} {H H' : Hp} (s : Same H H') : Mv S H H' := ⟨fun a o _ h => s a o h, fun a xs h => s a _ h, fun a h => by
  cases e : H a with
  | none => rfl
  | some o => rw [s a o e] at h; cases h⟩
theorem Mv.trans {S : List Addr} {H H1 H2 : Hp} (m : Mv S H H1) (m2 : Mv S H1 H2) : Mv S H H2 := ⟨fun a o n h => m2.kp a o n (m.kp a o n h), fun a xs h => m2.tp a xs (m.tp a xs h), fun a h => m.dm a (m2.dm a h)⟩
theorem Mv.step {S S1 : List Addr} {H H1 H2 : Hp} (m : Mv S H H1) (m2 : Mv S1 H1 H2) (hs : ∀ a ∈ S1, a ∈ S ∨ H a = none) : Mv S H H2 := by
  refine ⟨fun a o n h => ?_, fun a xs h => m2.tp a xs (m.tp a xs h), fun a h => m.dm a (m2.dm a h)⟩
  refine m2.kp a o (fun z => ?_) (m.kp a o n h)
  rcases hs a z with q | q
  · exact n q
  · rw [q] at h; cases h
theorem Mv.stepS {S : List Addr} {H H1 H2 : Hp} (m : Mv S H H1) (s : Same H1 H2) : Mv S H H2 := m.trans s.mv
theorem Mv.at {S : List Addr} {H H' : Hp} {a : Addr} {o : HO} (m : Mv S H H') (n : a ∉ S) (h : H a = some o) : H' a = some o := m.kp a o n h
theorem Mv.none {S : List Addr} {H H' : Hp} {a : Addr} (m : Mv S H H') (h : H' a = none) : H a = none := m.dm a h
theorem Same.none {H H' : Hp} {a : Addr} (m : Same H H') (h : H' a = none) : H a = none := (m.mv (S := [])).dm a h
theorem Mv.of_upd {H : Hp} {p : Addr} {o u : HO} (h : H p = some u) (nt : ∀ xs, u ≠ .tup xs) : Mv [p] H (upd H p o) := ⟨fun a v n e => by
  rw [upd_ne (fun z => n (by simp [z]))]; exact e, fun a xs e => by
  rw [upd_ne (fun z => by subst z; rw [h] at e; exact nt xs (Option.some.inj e))]; exact e, fun a e => by
  by_cases z : a = p
  · subst z; rw [upd_same] at e; cases e
  · rw [upd_ne z] at e; exact e⟩
mutual
theorem Dv.imm {H H' : Hp} (t : ∀ a xs, H a = some (.tup xs) → H' a = some (.tup xs)) : ∀ {v : V} {d : PyData}, Dv H v d → Imm d = true → Dv H' v d
  | _, _, .non, _ => .non
  | _, _, .bl b, _ => .bl b
  | _, _, .int i, _ => .int i
  | _, _, .str x, _ => .str x
  | _, _, .tup h r, c => .tup (t _ _ h) (Dvs.imm t r (by simpa [Imm] using c))
  | _, _, .lst h r, c => by simp [Imm] at c
  | _, _, .dct h r, c => by simp [Imm] at c
theorem Dvs.imm {H H' : Hp} (t : ∀ a xs, H a = some (.tup xs) → H' a = some (.tup xs)) : ∀ {v : List V} {d : List PyData}, Dvs H v d → ImmAll d = true → Dvs H' v d
  | _, _, .nil, _ => .nil
  | _, _, .cons h r, c => by
    have c' := c
    simp only [ImmAll, Bool.and_eq_true] at c'
    exact .cons (Dv.imm t h c'.1) (Dvs.imm t r c'.2)
end
theorem Mv.dats {S : List Addr} {H H' : Hp} {v : List V} {d : List PyData} (m : Mv S H H') (i : ImmAll d = true) (h : Dvs H v d) : Dvs H' v d := h.imm m.tp i
def LAt (H : Hp) (p : Addr) (ds : List PyData) : Prop := ∃ xs, H p = some (.lst xs) ∧ Dvs H xs ds ∧ ImmAll ds = true
theorem LAt.dv {H : Hp} {p : Addr} {ds : List PyData} (h : LAt H p ds) : Dv H (.ref p) (.list ds) := let ⟨_, e, d, _⟩ := h; .lst (.of e) d
theorem LAt.keeps {H H' : Hp} {p : Addr} {ds : List PyData} (s : Same H H') (h : LAt H p ds) : LAt H' p ds := let ⟨xs, e, d, i⟩ := h; ⟨xs, s _ _ e, d.keeps s, i⟩
theorem LAt.mv {S : List Addr} {H H' : Hp} {p : Addr} {ds : List PyData} (m : Mv S H H') (n : p ∉ S) (h : LAt H p ds) : LAt H' p ds := let ⟨xs, e, d, i⟩ := h; ⟨xs, m.at n e, m.dats i d, i⟩
theorem lat_upd {H : Hp} {p : Addr} {xs : List V} {ds : List PyData} (hn : H p = none) (d : Dvs H xs ds) (i : ImmAll ds = true) : LAt (upd H p (.lst xs)) p ds := ⟨xs, upd_same, d.keeps (same_upd hn), i⟩
theorem notin1 {p q : Addr} (h : p ≠ q) : p ∉ [q] := by simpa using h
theorem small {n m : Nat} (h : n ≤ m) (hm : m ≤ 4000 := by decide) : n ≤ sizeLine := Nat.le_trans h (Nat.le_trans hm (by decide))
theorem smaller {n : Nat} (h : n ≤ 4000) : n < sizeLine := Nat.lt_of_le_of_lt h (by decide)
section
variable {σ : St} {H : Hp} {Q : VK} {D : Ends} {K : PySem.W.Frag} {p : Addr} {ds : List PyData}
theorem r_bm {T : String} {r : V → List V → Hp → VK → Prop} {to : TE} {t : TA} (h : to σ H fun x H1 => tyV K T x H1 ∧ t σ H1 fun xs H2 => r x xs H2 Q) : tBM K T r to t σ H Q := h
theorem r_tyL {R : Prop} (hp : LAt H p ds) (h : R) : tyV K "list" (.ref p) H ∧ R := let ⟨xs, e, _, _⟩ := hp; ⟨.inl ⟨rfl, xs, SqL.of e⟩, h⟩
theorem r_app {y : V} {d : PyData} (hp : LAt H p ds) (hl : ds.length ≤ 4000) (hy : Dv H y d) (hi : Imm d = true) (h : ∀ H2, Mv [p] H H2 → LAt H2 p (ds ++ [d]) → Q .non H2) : rAppend (.ref p) [y] H Q := by
  obtain ⟨xs, e, dv, i⟩ := hp
  have m : Mv [p] H (upd H p (.lst (xs ++ [y]))) := .of_upd e (by intro _ z; cases z)
  refine ⟨p, xs, y, rfl, rfl, e, by rw [dv.length]; exact smaller hl, h _ m ⟨_, upd_same, m.dats (immAll_append i (by simp [ImmAll, hi])) (dv.append (.cons hy .nil)), immAll_append i (by simp [ImmAll, hi])⟩⟩
theorem r_lstA {xs : List V} (hl : xs.length ≤ sizeLine) (hd : Dvs H xs ds) (hi : ImmAll ds = true) (k : ∀ p H2, Same H H2 → H p = none → LAt H2 p ds → Q (.ref p) H2) : LstP xs H Q :=
  ⟨hl, ds, hd, fun p H2 s n e d _ => k p H2 s n ⟨xs, e, d, hi⟩⟩
end
end L2

namespace L2
open PySem PySem.Spec PyProof.Rows PySem.W
mutual
theorem Dv.fn {H : Hp} : ∀ {v : V} {d e : PyData}, Dv H v d → Dv H v e → Imm d = true → d = e
  | _, _, _, .non, h, _ => by cases h; rfl
  | _, _, _, .bl b, h, _ => by cases h; rfl
  | _, _, _, .int i, h, _ => by cases h; rfl
  | _, _, _, .str x, h, _ => by cases h; rfl
  | _, _, _, .tup h r, h2, c => by
    cases h2 with
    | tup h' r' =>
      have c' := (by simpa [Imm] using c : ImmAll _ = true)
      rw [h] at h'
      cases h'
      rw [Dvs.fn r r' c']
    | lst h' r' =>
      rcases h' with h' | ⟨o, h'⟩ <;> rw [h] at h' <;> cases h'
    | dct h' r' => rw [h] at h'; cases h'
  | _, _, _, .lst h r, _, c => by simp [Imm] at c
  | _, _, _, .dct h r, _, c => by simp [Imm] at c
theorem Dvs.fn {H : Hp} : ∀ {v : List V} {d e : List PyData}, Dvs H v d → Dvs H v e → ImmAll d = true → d = e
  | _, _, _, .nil, h, _ => by cases h; rfl
  | _, _, _, .cons h r, h2, c => by
    have c' := c
    simp only [ImmAll, Bool.and_eq_true] at c'
    cases h2 with
    | cons h' r' => rw [Dv.fn h h' c'.1, Dvs.fn r r' c'.2]
end
theorem Dv.lst_inv {H : Hp} {v : V} {ds : List PyData} (h : Dv H v (.list ds)) : ∃ a xs, v = .ref a ∧ (∀ K : PySem.W.Frag, SqL K H a xs) ∧ Dvs H xs ds := by
  cases h with
  | lst h r => exact ⟨_, _, rfl, fun _ => .inl h, r⟩
section
variable {σ : St} {H : Hp} {Q : VK} {D : Ends} {K : PySem.W.Frag} {p : Addr} {v : V} {ds : List PyData}
def LCT (te : TE) (N : Option V → Hp → Prop) (σ2 : St) (b : Bool) (H3 : Hp) : Prop := if b = true then te σ2 H3 (fun y H4 => N (some y) H4) else N none H3
theorem r_lcT {k : Nat} {tl : TE} {g : TG} {tc : TT} {te : TE} (h : tl σ H fun x H1 => ∃ a, x = .ref a ∧ (∃ xs, SqL K H1 a xs) ∧ LCW k g tc te (LCFin Q) σ (Itl K a) H1) : tLC k (iList K tl) g tc te σ H Q := h
theorem r_lc {k : Nat} {g : TG} {tc : TT} {te : TE} {α : Type} {cs : List α} {gd : α → PyData} (pf : α → Bool) (fd : α → PyData) (hl : Dv H v (.list (cs.map gd))) (hlen : cs.length ≤ 4000) (hi : ∀ c, Imm (fd c) = true)
    (turn : ∀ x c H' (N : Option V → Hp → Prop), c ∈ cs → Same H H' → Dv H' x (gd c) → (pf c = true → ∀ y H4, Same H' H4 → Dv H4 y (fd c) → N (some y) H4) → (pf c = false → ∀ H3, Same H' H3 → N none H3) →
      g x (List.replicate k none ++ σ) H' fun σ2 H2 => tc σ2 H2 fun b H3 => LCT te N σ2 b H3)
    (kk : ∀ q H', Same H H' → H q = none → LAt H' q ((cs.filter pf).map fd) → Q (.ref q) H') : ∃ a, v = .ref a ∧ (∃ xs, SqL K H a xs) ∧ LCW k g tc te (LCFin Q) σ (Itl K a) H := by
  obtain ⟨p, xs, rfl, e, dv⟩ := hl.lst_inv
  have hl0 : SqL K H p xs := e K
  have hxl : xs.length = cs.length := by rw [dv.length, List.length_map]
  refine ⟨p, rfl, ⟨xs, hl0⟩, fun i m acc H' => i ≤ cs.length ∧ m = cs.length - i ∧ Same H H' ∧ Dvs H' acc (((cs.take i).filter pf).map fd), ⟨cs.length, Nat.zero_le _, rfl, Same.refl _, by simpa using Dvs.nil⟩, ?_⟩
  rintro i m acc H' ⟨hi1, hm, sm, hacc⟩
  have hl' : SqL K H' p xs := Same.seq sm hl0
  have hal : acc.length ≤ cs.length := by
    rw [hacc.length, List.length_map]
    exact Nat.le_trans (List.length_filter_le _ _) (by rw [List.length_take]; omega)
  by_cases hc : i = cs.length
  · left
    refine ⟨⟨xs, hl', by omega⟩, fun q hq => ?_⟩
    rw [hc, List.take_length] at hacc
    have sm2 : Same H (upd H' q (.lst acc)) := sm.trans (same_upd hq)
    exact kk q _ sm2 (sm.none hq) ⟨acc, upd_same, hacc.keeps (same_upd hq), immAll_map hi _⟩
  · right
    have hlt : i < cs.length := by omega
    have hlx : i < xs.length := by omega
    refine ⟨⟨xs, xs[i], hl', List.getElem?_eq_getElem hlx⟩, smaller (by omega), fun x H2 hy => ?_⟩
    obtain ⟨rfl, hy⟩ := hy
    have hx := hy xs hl'
    have hcs : cs[i]? = some cs[i] := List.getElem?_eq_getElem hlt
    obtain ⟨x', hx', hd⟩ := dv.get (i := i) (d := gd cs[i]) (by rw [List.getElem?_map, hcs]; rfl)
    rw [hx] at hx'
    cases hx'
    have htk : cs.take (i + 1) = cs.take i ++ [cs[i]] := by rw [List.take_add_one, hcs]; rfl
    exact turn x cs[i] H2 (fun o H4 => match o with | some y => ∃ m', m' < m ∧ i + 1 ≤ cs.length ∧ m' = cs.length - (i + 1) ∧ Same H H4 ∧ Dvs H4 (acc ++ [y]) (((cs.take (i + 1)).filter pf).map fd) | none => ∃ m', m' < m ∧ i + 1 ≤ cs.length ∧ m' = cs.length - (i + 1) ∧ Same H H4 ∧ Dvs H4 acc (((cs.take (i + 1)).filter pf).map fd))
      (List.getElem_mem hlt) sm (hd.keeps sm)
      (fun hp y H4 s4 d4 => ⟨cs.length - (i + 1), by omega, hlt, rfl, sm.trans s4, by
        rw [htk, List.filter_append, List.map_append]
        simp only [List.filter_cons, hp, if_true, List.filter_nil, List.map_cons, List.map_nil]
        exact Dvs.append (hacc.keeps s4) (.cons d4 .nil)⟩)
      (fun hp H3 s3 => ⟨cs.length - (i + 1), by omega, hlt, rfl, sm.trans s3, by
        rw [htk, List.filter_append, List.map_append]
        simp only [List.filter_cons, hp, Bool.false_eq_true, if_false, List.filter_nil, List.map_nil, List.append_nil]
        exact hacc.keeps s3⟩)
end
end L2
namespace L2
open PySem PySem.Spec PyProof.Rows PySem.W
def lcCheck (scope sc : Scope) (N M : List Str) : Bool :=
  (scope.kind == .function) && scope.names.all (fun y => y.2 != .cell) && scope.names.all (fun y => y.2 != .local || scope.names.lookup y.1 == some .local) &&
    scope.names.all (fun y => y.2 != .free || (sc.names.lookup y.1 == some .cell || sc.names.lookup y.1 == some .free)) && (M.length == N.length) &&
    (M.zip N).all fun p => (p.1 == p.2 && scope.names.lookup p.1 == some .free) || scope.names.lookup p.1 == none
theorem lcn {X : Cx} {T M : List Str} {scope : Scope} (sc : Scope) (N : List Str) (hs : X.env.scope = sc) (hN : X.N = N) (h : lcCheck scope sc N M = true) : LCNames X T M scope := by
  unfold lcCheck at h
  simp only [Bool.and_eq_true, List.all_eq_true, Bool.or_eq_true, bne_iff_ne, beq_iff_eq, ne_eq] at h
  obtain ⟨⟨⟨⟨⟨h1, h2⟩, h3⟩, h4⟩, h5⟩, h6⟩ := h
  refine ⟨h1, h2, fun y hy e => ?_, fun y hy e => ?_, by rw [hN]; exact h5, fun i x hx => ?_⟩
  · rcases h3 y hy with z | z
    · exact absurd e z
    · exact z
  · rw [hs]
    rcases h4 y hy with z | z
    · exact absurd e z
    · exact z
  · have hi : i < M.length := (List.getElem?_eq_some_iff.mp hx).1
    have hiN : i < N.length := by omega
    have hz : (M.zip N)[i]? = some (x, N[i]) := by
      rw [List.getElem?_zip_eq_some]
      exact ⟨hx, List.getElem?_eq_getElem hiN⟩
    rcases h6 _ (List.mem_of_getElem? hz) with ⟨a, b⟩ | a
    · left
      refine ⟨?_, b⟩
      rw [hN, List.getElem?_eq_getElem hiN]
      have a' : x = N[i] := a
      rw [a']
    · exact .inr a
section
variable {σ : St} {H : Hp} {Q : VK} {D : Ends} {K : PySem.W.Frag} {p : Addr} {v : V} {ds : List PyData}
theorem r_ixSt {z : Str} {i : Int} {c : Nat} (hl : z.length ≤ sizeLine) (hi : atI z.cps.toList i = some c) (h : Q (.str ⟨#[c]⟩) H) : rIxK K (.str z) (.int i) H Q := .inl (.inr ⟨z, i, c, rfl, rfl, hl, hi, h⟩)
def rAddS : R2 := fun x y H Q => ∃ i j, x = .str i ∧ y = .str j ∧ i.length + j.length ≤ sizeLine ∧ Q (.str (i ++ j)) H
theorem op_addS {X : Cx} : OpR X (binaryOp .Add) rAddS := op_add_str
theorem r_addS {i j : Str} (hl : i.length + j.length ≤ 4000) (h : Q (.str (i ++ j)) H) : rAddS (.str i) (.str j) H Q := ⟨i, j, rfl, rfl, small hl, h⟩
def rListOf (K : PySem.W.Frag) : List V → Hp → VK → Prop := fun xs H Q => ∃ p ys, xs = [.ref p] ∧ (SqL K H p ys ∨ SqT K H p ys) ∧ ∀ l, H l = none → Q (.ref l) (upd H l (.lst ys))
theorem cut_nat (xs : List V) (i j : Nat) : cutV xs (some (i : Int)) (some (j : Int)) = (xs.drop i).take (j - i) := by
  unfold cutV
  rw [HT.sIx_nat, HT.sIx_nat]
  by_cases h : i ≤ xs.length
  · rw [Nat.min_eq_left h]
    by_cases h2 : j ≤ xs.length
    · rw [Nat.min_eq_left h2]
    · rw [Nat.min_eq_right (by omega)]
      rw [List.take_of_length_le (by rw [List.length_drop]; omega), List.take_of_length_le (by rw [List.length_drop]; omega)]
  · rw [List.drop_of_length_le (show xs.length ≤ min i xs.length by omega), List.drop_of_length_le (show xs.length ≤ i by omega), List.take_nil, List.take_nil]
theorem r_sl {te : TE} {tl th : TO} {r : V → Option Int → Option Int → Hp → VK → Prop} (h : te σ H fun x H1 => tl σ H1 fun l H2 => th σ H2 fun u H3 => r x l u H3 Q) : tSl r te tl th σ H Q := h
theorem r_part {t : TE} {R : Option Int → Hp → Prop} (h : t σ H fun x H1 => ∃ i, x = .int i ∧ R (some i) H1) : tPart t σ H R := h
theorem r_partI {i : Int} {R : Int → Prop} (h : R i) : ∃ j, V.int i = .int j ∧ R j := ⟨i, rfl, h⟩
theorem r_cutN {ns : List Int} (i j : Nat) (hp : SqL K H p (ns.map V.int)) (k : ∀ q H', Same H H' → H q = none → LAt H' q (((ns.drop i).take (j - i)).map PyData.int) → Q (.ref q) H') : rSlL K (.ref p) (some (i : Int)) (some (j : Int)) H Q := by
  refine ⟨p, _, rfl, hp, fun q hq => ?_⟩
  rw [cut_nat, ← List.map_drop, ← List.map_take]
  exact k q _ (same_upd hq) hq ⟨_, upd_same, Dvs.ints _, immAll_map (fun _ => rfl) _⟩
theorem inV_strs {H : Hp} {x : Str} : ∀ {xs : List V} {ss : List Str}, Dvs H xs (ss.map PyData.str) → xs.all flatV = true ∧ inV (.str x) xs = ss.contains x
  | _, [], .nil => ⟨rfl, rfl⟩
  | _, s :: ss, .cons h r => by
    cases h
    obtain ⟨a, b⟩ := inV_strs (x := x) r
    refine ⟨by simpa [flatV] using a, ?_⟩
    show (eqV (.str s) (.str x) || inV (.str x) _) = _
    rw [b]
    show ((s == x) || ss.contains x) = _
    rw [List.contains_cons, show (s == x) = (x == s) from by rw [Bool.eq_iff_iff, beq_iff_eq, beq_iff_eq]; exact eq_comm]
theorem r_inS {ss : List Str} {x : Str} (hp : Dv H v (.list (ss.map PyData.str))) (h : Q (.bl (ss.contains x)) H) : rIn K false (.str x) v H Q := by
  obtain ⟨p, xs, rfl, e, dv⟩ := hp.lst_inv
  obtain ⟨a, b⟩ := inV_strs (x := x) dv
  refine ⟨p, xs, rfl, .inl (e K), rfl, a, ?_⟩
  rw [b]; exact h
theorem r_ninS {ss : List Str} {x : Str} (hp : Dv H v (.list (ss.map PyData.str))) (h : Q (.bl (!ss.contains x)) H) : rIn K true (.str x) v H Q := by
  obtain ⟨p, xs, rfl, e, dv⟩ := hp.lst_inv
  obtain ⟨a, b⟩ := inV_strs (x := x) dv
  refine ⟨p, xs, rfl, .inl (e K), rfl, a, ?_⟩
  rw [b]; exact h
def Unp3 (K : PySem.W.Frag) (x : V) (i j l : Nat) (R : St → Hp → Prop) (σ : St) (H : Hp) : Prop := gTup K 3 (gCons (gName i) (gCons (gName j) (gCons (gName l) gNil))) x σ H R
theorem forD {α : Type} {cs : List α} {gd : α → PyData} {g : TG} {tb : TS} (hl : Dv H v (.list (cs.map gd))) (Pv : Nat → St → Hp → Prop) (h0 : Pv 0 σ H) (hk : ∀ i σ H', i ≤ cs.length → Pv i σ H' → ∀ a xs, v = .ref a → SqL K H a xs → SqL K H' a xs)
    (hs : ∀ i c x σ H', cs[i]? = some c → Pv i σ H' → (Imm (gd c) = true → (∀ a xs, H a = some (.tup xs) → H' a = some (.tup xs)) → Dv H' x (gd c)) → (Same H H' → Dv H' x (gd c)) → g x σ H' fun σ2 H2 => tb { D with nx := Pv (i + 1), ct := Pv (i + 1), bk := D.nx } σ2 H2) (hd : ∀ σ H', Pv cs.length σ H' → D.nx σ H') : ForL K v g tb D σ H := by
  obtain ⟨p, xs, rfl, e, dv⟩ := hl.lst_inv
  have hxl : xs.length = cs.length := by rw [dv.length, List.length_map]
  refine forL (e K) Pv h0 (fun i σ H' hi hp => hk i σ H' (by omega) hp p xs rfl (e K)) (fun i x σ H' hx hp => ?_) (fun σ H' hp => hd σ H' (by rw [← hxl]; exact hp))
  have hi : i < cs.length := by have := (List.getElem?_eq_some_iff.mp hx).1; omega
  obtain ⟨x', hx', hd'⟩ := dv.get (i := i) (d := gd cs[i]) (by rw [List.getElem?_map, List.getElem?_eq_getElem hi]; rfl)
  rw [hx] at hx'
  cases hx'
  exact hs i cs[i] x σ H' (List.getElem?_eq_getElem hi) hp (fun im t => hd'.imm t im) (fun s => hd'.keeps s)
end
end L2
namespace L2
theorem dm_trans {H H1 H2 : Hp} (a : ∀ x, H1 x = none → H x = none) (b : ∀ x, H2 x = none → H1 x = none) : ∀ x, H2 x = none → H x = none := fun x h => a x (b x h)
theorem dm_use {H H' : Hp} {p : PySem.Addr} (s : ∀ x, H' x = none → H x = none) (h : H' p = none) : H p = none := s p h
theorem Same.dm' {H H' : Hp} (s : Same H H') : ∀ x, H' x = Option.none → H x = Option.none := (s.mv (S := [])).dm
end L2
namespace L2
open PySem
theorem atI_mapI {α β : Type} [Inhabited α] {f : α → β} {xs : List α} {i : Int} (h0 : 0 ≤ i) (h1 : i < xs.length) : atI (xs.map f) i = some (f (xs.getD i.toNat default)) := by
  obtain ⟨m, rfl⟩ := Int.eq_ofNat_of_zero_le h0
  have hm : m < xs.length := by omega
  refine atI_nat ?_
  rw [List.getElem?_map, List.getElem?_eq_getElem hm]
  simp [hm]
end L2
namespace L2
open PySem
theorem r_lenM {α : Type} {g : α → PyData} {xs : List α} {K : PySem.W.Frag} {H : Hp} {Q : VK} {v : V} (hs : Dv H v (.list (xs.map g))) (h : Q (.int (xs.length : Nat)) H) : rLenK K [v] H Q := r_lenK (.inr hs) (by rw [List.length_map]; exact h)
end L2
namespace L2
open PySem
theorem r_gname {i : Nat} {v : V} {σ : St} {H : Hp} {R : St → Hp → Prop} (h : R (σ.set i (some v)) H) : gName i v σ H R := h
theorem Mv.sameN {p : Addr} {H H1 H2 : Hp} (s : Same H H1) (m : Mv [p] H1 H2) (n : H p = Option.none) : Same H H2 := fun a o e => m.kp a o (notin1 (ne_of_none e n)) (s a o e)
end L2
namespace L2
open PySem
theorem Mv.sq {K : PySem.W.Frag} {S : List Addr} {H H' : Hp} {a : Addr} {xs : List V} (m : Mv S H H') (n : a ∉ S) (h : SqL K H a xs) : SqL K H' a xs := by
  rcases h with (h | ⟨o, h⟩) | h
  · exact .inl (.inl (m.at n h))
  · exact .inl (.inr ⟨o, m.at n h⟩)
  · exact .inr h
end L2
namespace L2
open PySem
theorem r_lct {te : TE} {N : Option V → Hp → Prop} {σ2 : St} {b : Bool} {H3 : Hp} (h1 : b = true → te σ2 H3 (fun y H4 => N (some y) H4)) (h2 : b = false → N none H3) : LCT te N σ2 b H3 := by
  unfold LCT
  cases b with
  | true => rw [if_pos rfl]; exact h1 rfl
  | false => rw [if_neg (by simp)]; exact h2 rfl
end L2
namespace L2
open PySem PySem.Spec PyProof.Rows
section
variable {X : Cx} {K : PySem.W.Frag} {a b e : Expr} {es : List Expr} {ta : TE} {pos : Pos}
theorem ix_KK (h : X.K = K) : IxR X (rIxK K) := by rw [← h]; exact ix_K
theorem op_inK (h : X.K = K) : OpR X (compareOp .In) (rIn K false) := by rw [← h]; exact op_in_seq
theorem op_ninK (h : X.K = K) : OpR X (compareOp .NotIn) (rIn K true) := by rw [← h]; exact op_notIn_seq
theorem op_eqK (h : X.K = K) (hu : X.A.units + 8 < cLine) : OpR X (compareOp .Eq) (rEqA K id) := by rw [← h]; exact op_eqA hu
theorem pt_truthK (h : X.K = K) (ha : PE X a ta) (he : ∀ whole, isTrue a X.env whole = (do let v ← whole; standAt a.pos; holding [v] (truthy v))) : PT X a (fun σ H Q => ta σ H fun x H' => ∃ k, TruV K x H' k ∧ Q k H') := by rw [← h]; exact pt_truth ha he
end
end L2

namespace L2
open PySem PySem.Spec PyProof.Rows PySem.W
inductive DKs (H : Hp) : List (Key × V) → List (Str × PyData) → Prop where
  | nil : DKs H [] []
  | cons {k : Str} {v : V} {d : PyData} {kvs : List (Key × V)} {m : List (Str × PyData)} (h : Dv H v d) (i : Imm d = true) (r : DKs H kvs m) : DKs H ((.inr k, v) :: kvs) ((k, d) :: m)
theorem DKs.imm {H H' : Hp} (t : ∀ a xs, H a = some (.tup xs) → H' a = some (.tup xs)) : ∀ {kvs : List (Key × V)} {m : List (Str × PyData)}, DKs H kvs m → DKs H' kvs m
  | _, _, .nil => .nil
  | _, _, .cons h i r => .cons (h.imm t i) i (DKs.imm t r)
theorem DKs.length {H : Hp} : ∀ {kvs : List (Key × V)} {m : List (Str × PyData)}, DKs H kvs m → kvs.length = m.length
  | _, _, .nil => rfl
  | _, _, .cons _ _ r => by simp [DKs.length r]
def lkp (m : List (Str × PyData)) (k : Str) : Option PyData := (m.find? fun kv => decide (kv.1 = k)).map (·.2)
def putD (m : List (Str × PyData)) (k : Str) (d : PyData) : List (Str × PyData) := if (m.any fun kv => decide (kv.1 = k)) = true then m.map (fun kv => if kv.1 = k then (kv.1, d) else kv) else m ++ [(k, d)]
def dropD (m : List (Str × PyData)) (k : Str) : List (Str × PyData) := m.filter fun kv => decide (kv.1 ≠ k)
theorem inr_iff {a b : Str} : ((Sum.inr a : Key) = Sum.inr b) = (a = b) := propext ⟨fun h => Sum.inr.inj h, fun h => by rw [h]⟩
theorem DKs.val {H : Hp} {k : Str} : ∀ {kvs : List (Key × V)} {m : List (Str × PyData)}, DKs H kvs m → (∀ d, lkp m k = some d → ∃ v, valV kvs (.inr k) = some v ∧ Dv H v d) ∧ (lkp m k = none → valV kvs (.inr k) = none)
  | _, _, .nil => ⟨fun d h => by simp [lkp] at h, fun _ => rfl⟩
  | _, _, .cons (k := j) h i r => by
    obtain ⟨h1, h2⟩ := DKs.val (k := k) r
    by_cases e : j = k
    · subst e
      refine ⟨fun d hd => ⟨_, valV_pos rfl, ?_⟩, fun hd => by simp [lkp] at hd⟩
      simp [lkp] at hd
      subst hd; exact h
    · have e' : (Sum.inr j : Key) ≠ .inr k := fun z => e (Sum.inr.inj z)
      have el : ∀ (d : PyData) (m : List (Str × PyData)), lkp ((j, d) :: m) k = lkp m k := fun d m => by simp [lkp, List.find?_cons, e]
      refine ⟨fun d hd => ?_, fun hd => ?_⟩
      · rw [el] at hd
        obtain ⟨v, hv, hd'⟩ := h1 d hd
        exact ⟨v, by rw [valV_neg e']; exact hv, hd'⟩
      · rw [el] at hd
        rw [valV_neg e']; exact h2 hd
theorem DKs.any {H : Hp} {k : Str} : ∀ {kvs : List (Key × V)} {m : List (Str × PyData)}, DKs H kvs m → (kvs.any fun kv => decide (kv.1 = .inr k)) = m.any fun kv => decide (kv.1 = k)
  | _, _, .nil => rfl
  | _, _, .cons h i r => by
    simp only [List.any_cons, DKs.any r, inr_iff]
theorem DKs.append {H : Hp} : ∀ {kvs kvs' : List (Key × V)} {m m' : List (Str × PyData)}, DKs H kvs m → DKs H kvs' m' → DKs H (kvs ++ kvs') (m ++ m')
  | _, _, _, _, .nil, s => s
  | _, _, _, _, .cons h i r, s => .cons h i (DKs.append r s)
theorem DKs.repl {H : Hp} {k : Str} {v : V} {d : PyData} (hv : Dv H v d) (hi : Imm d = true) : ∀ {kvs : List (Key × V)} {m : List (Str × PyData)}, DKs H kvs m → DKs H (kvs.map fun kv => if kv.1 = .inr k then (kv.1, v) else kv) (m.map fun kv => if kv.1 = k then (kv.1, d) else kv)
  | _, _, .nil => .nil
  | _, _, .cons (k := j) h i r => by
    rw [List.map_cons, List.map_cons]
    by_cases e : j = k
    · subst e
      rw [if_pos rfl, if_pos rfl]
      exact .cons hv hi (DKs.repl hv hi r)
    · rw [if_neg (fun z => e (Sum.inr.inj z)), if_neg e]
      exact .cons h i (DKs.repl hv hi r)
theorem DKs.put {H : Hp} {k : Str} {v : V} {d : PyData} {kvs : List (Key × V)} {m : List (Str × PyData)} (r : DKs H kvs m) (hv : Dv H v d) (hi : Imm d = true) : DKs H (putK kvs (.inr k) v) (putD m k d) := by
  unfold putK putD
  rw [r.any]
  by_cases h : (m.any fun kv => decide (kv.1 = k)) = true
  · rw [if_pos h, if_pos h]; exact r.repl hv hi
  · rw [if_neg h, if_neg h]; exact r.append (.cons hv hi .nil)
theorem DKs.drop {H : Hp} {k : Str} : ∀ {kvs : List (Key × V)} {m : List (Str × PyData)}, DKs H kvs m → DKs H (dropK kvs (.inr k)) (dropD m k)
  | _, _, .nil => .nil
  | _, _, .cons (k := j) h i r => by
    by_cases e : j = k
    · subst e
      have := DKs.drop (k := j) r
      simpa [dropK, dropD] using this
    · have := DKs.drop (k := k) r
      have e' : (Sum.inr j : Key) ≠ .inr k := fun z => e (Sum.inr.inj z)
      simp only [dropK, dropD, List.filter_cons] at this ⊢
      rw [if_pos (by simpa using e'), if_pos (by simpa using e)]
      exact .cons h i this
def DAt (H : Hp) (p : Addr) (m : List (Str × PyData)) : Prop := ∃ kvs, H p = some (.dK kvs) ∧ DKs H kvs m
theorem DAt.keeps {H H' : Hp} {p : Addr} {m : List (Str × PyData)} (s : Same H H') (h : DAt H p m) : DAt H' p m := let ⟨kvs, e, d⟩ := h; ⟨kvs, s _ _ e, d.imm fun a xs e => s _ _ e⟩
theorem DAt.mv {S : List Addr} {H H' : Hp} {p : Addr} {m : List (Str × PyData)} (v : Mv S H H') (n : p ∉ S) (h : DAt H p m) : DAt H' p m := let ⟨kvs, e, d⟩ := h; ⟨kvs, v.at n e, d.imm v.tp⟩
theorem DAt.ne {H : Hp} {p q : Addr} {m : List (Str × PyData)} (h : DAt H p m) (hn : H q = none) : p ≠ q := let ⟨_, e, _⟩ := h; ne_of_none e hn
section
variable {σ : St} {H : Hp} {Q : VK} {D : Ends} {K : PySem.W.Frag} {p : Addr} {m : List (Str × PyData)} {k : Str}
theorem r_dnew (h : ∀ p H2, Same H H2 → H p = none → DAt H2 p [] → Q (.ref p) H2) : tDNewK σ H Q := fun p hp => h p _ (same_upd hp) hp ⟨[], upd_same, .nil⟩
theorem r_dputT {td ty tv : TE} (h : tv σ H fun v H1 => td σ H1 fun x H2 => ty σ H2 fun y H3 => ∃ a H4, x = .ref a ∧ DPut H3 a y v H4 ∧ D.nx σ H4) : sDPut td ty tv D σ H := h
theorem r_dput {v : V} {d : PyData} {R : Hp → Prop} (hp : DAt H p m) (hl : m.length ≤ 4000) (hv : Dv H v d) (hi : Imm d = true) (h : ∀ H2, Mv [p] H H2 → DAt H2 p (putD m k d) → R H2) : ∃ a H4, V.ref p = .ref a ∧ DPut H a (.str k) v H4 ∧ R H4 := by
  obtain ⟨kvs, e, dk⟩ := hp
  have mv : Mv [p] H (upd H p (.dK (putK kvs (.inr k) v))) := .of_upd e (by intro _ z; cases z)
  exact ⟨p, _, rfl, DPut.k (k := .inr k) e (by rw [dk.length]; exact smaller hl), h _ mv ⟨_, upd_same, (dk.put hv hi).imm mv.tp⟩⟩
theorem r_dgetT {td ty : TE} (h : td σ H fun x H1 => ty σ H1 fun y H2 => ∃ a v, x = .ref a ∧ DGet H2 a y (some v) ∧ Q v H2) : tDGet td ty σ H Q := h
theorem r_dinT {td ty : TE} (h : ty σ H fun y H1 => td σ H1 fun x H2 => ∃ a o, x = .ref a ∧ DGet H2 a y o ∧ Q (.bl o.isSome) H2) : tDIn ty td σ H Q := h
theorem r_dninT {td ty : TE} (h : ty σ H fun y H1 => td σ H1 fun x H2 => ∃ a o, x = .ref a ∧ DGet H2 a y o ∧ Q (.bl (!o.isSome)) H2) : tDNotIn ty td σ H Q := h
def rLenD : List V → Hp → VK → Prop := fun xs H Q => ∃ a kvs, xs = [V.ref a] ∧ H a = some (.dK kvs) ∧ Q (.int kvs.length) H
def ow : Option Int → V | none => .non | some i => .int i
def owD : Option Int → PyData | none => .none | some i => .int i
end
end L2
namespace L2
theorem r_tB {t : TE} {σ : St} {H : Hp} {Q : Bool → Hp → Prop} (h : t σ H fun x H' => ∃ k, x = .bl k ∧ Q k H') : tB t σ H Q := h
end L2
namespace L2
open PySem
theorem forDB {Hb : Hp} {σ : St} {H : Hp} {D : Ends} {K : PySem.W.Frag} {v : V} {α : Type} {cs : List α} {gd : α → PyData} {g : TG} {tb : TS} (hl : Dv Hb v (.list (cs.map gd))) (Pv : Nat → St → Hp → Prop) (h0 : Pv 0 σ H) (hk : ∀ i σ H', i ≤ cs.length → Pv i σ H' → ∀ a xs, v = .ref a → SqL K Hb a xs → SqL K H' a xs)
    (hs : ∀ i c x σ H', cs[i]? = some c → Pv i σ H' → (Imm (gd c) = true → (∀ a xs, Hb a = some (.tup xs) → H' a = some (.tup xs)) → Dv H' x (gd c)) → (Same Hb H' → Dv H' x (gd c)) → g x σ H' fun σ2 H2 => tb { D with nx := Pv (i + 1), ct := Pv (i + 1), bk := D.nx } σ2 H2) (hd : ∀ σ H', Pv cs.length σ H' → D.nx σ H') : ForL K v g tb D σ H := by
  obtain ⟨p, xs, rfl, e, dv⟩ := hl.lst_inv
  have hxl : xs.length = cs.length := by rw [dv.length, List.length_map]
  refine forL (hk 0 σ H (Nat.zero_le _) h0 p xs rfl (e K)) Pv h0 (fun i σ H' hi hp => hk i σ H' (by omega) hp p xs rfl (e K)) (fun i x σ H' hx hp => ?_) (fun σ H' hp => hd σ H' (by rw [← hxl]; exact hp))
  have hi : i < cs.length := by have := (List.getElem?_eq_some_iff.mp hx).1; omega
  obtain ⟨x', hx', hd'⟩ := dv.get (i := i) (d := gd cs[i]) (by rw [List.getElem?_map, List.getElem?_eq_getElem hi]; rfl)
  rw [hx] at hx'
  cases hx'
  exact hs i cs[i] x σ H' (List.getElem?_eq_getElem hi) hp (fun im t => hd'.imm t im) (fun s => hd'.keeps s)
end L2
namespace L2
open PySem
end L2

namespace L2
open PySem PySem.Spec PyProof.Rows PySem.W
def Its (x : Str) : It := ⟨fun i _ => i < x.cps.size, fun i H v H' => H' = H ∧ ∃ c, x.cps[i]? = some c ∧ v = .str ⟨#[c]⟩, fun i _ => i = x.cps.size⟩
def iStr (tl : TE) : TI := fun σ H R => tl σ H fun v H1 => ∃ x, v = .str x ∧ R (Its x) H1
section
variable {X : Cx} {tg : Expr}
def rLeS : R2 := fun x y H Q => ∃ i j, x = .str i ∧ y = .str j ∧ Q (.bl (!ltS j i)) H
def rAll : List V → Hp → VK → Prop := fun xs H Q => ∃ (v : V) (bs : List Bool), xs = [v] ∧ Dv H v (.list (bs.map PyData.bool)) ∧ Q (.bl (bs.all id)) H
def rAny : List V → Hp → VK → Prop := fun xs H Q => ∃ (v : V) (bs : List Bool), xs = [v] ∧ Dv H v (.list (bs.map PyData.bool)) ∧ Q (.bl (bs.any id)) H
theorem bools_at {H : Hp} : ∀ {xs : List V} {bs : List Bool} {us : List Value}, Dvs H xs (bs.map PyData.bool) → Vals xs us → us = bs.map Value.bool
  | _, [], _, .nil, .nil => rfl
  | _, b :: bs, _, .cons h r, .cons q t => by
    cases h
    cases q
    rw [bools_at r t]; rfl
theorem walk_bools {H : Hp} {pins : List (Addr × Obj)} {σ : St} {s : Shared} {v : V} {u : Value} {bs : List Bool} {A : Around} {E : Value → Shared → Prop} {Q : (Nat → Bool) → Shared → Prop} (hA : A.handled = none) (I : Inv X pins σ H s) (rv : RelV v u) (hd : Dv H v (.list (bs.map PyData.bool)))
    (fin : ∀ h' tk, Inv X pins σ H { s with heap := h', toks := tk } → Q (fun i => bs.getD i false) { s with heap := h', toks := tk }) :
    wpAny (model X.prog X.w) A (pyIter u) (fun it s2 => ∃ J fp wr n P St tr, it = .ref J ∧ Walks X.prog X.w A J fp wr n P St ∧ St 0 s2.heap ∧ TruthOf X.prog X.w A P tr ∧ n = bs.length ∧ (tr = fun i => bs.getD i false) ∧
      ∀ h' tk, (∀ b o, b ∉ wr → s2.heap.get? b = some o → h'.get? b = some o) → Q tr { s2 with heap := h', toks := tk }) E s := by
  obtain ⟨p, xs, rfl, e, dv⟩ := hd.lst_inv
  obtain ⟨its, rvs, pl, _⟩ := I.list (e X.K)
  have hits := bools_at dv rvs
  have hu : u = .ref p := rv
  subst hu
  refine wpAny_pyIter_list pl.isList ?_
  have hlt : p < s.heap.objs.size := by obtain ⟨o, n, e1, _⟩ := pl; exact Heap.lt_size e1
  refine ⟨s.heap.objs.size, _, _, _, _, _, fun i => bs.getD i false, rfl, Walks.list hA _ p (Nat.ne_of_lt hlt) its.toArray, ⟨⟨_, Heap.get?_push_size _ rfl, rfl, rfl⟩, pl.isList.at fun o e => Heap.get?_push_of_some _ e⟩, ?_, ?_, rfl, fun h' tk kk => ?_⟩
  · intro i w' s3 Q3 E3 hP q
    subst hits
    have hi : (bs.map Value.bool)[i]? = some w' := by simpa using hP
    rw [List.getElem?_map] at hi
    cases hb : bs[i]? with
    | none => rw [hb] at hi; cases hi
    | some b =>
      rw [hb] at hi
      have : w' = .bool b := (Option.some.inj hi).symm
      subst this
      refine wpAny_truthy_bool ?_
      have : bs.getD i false = b := by simp [hb]
      have q' : Q3 (bs.getD i false) s3 := q
      rw [this] at q'
      exact q'
  · subst hits; simp
  · have I1 := I.kept (t' := s.toks) (h' := s.heap.push { cls := Value.type "list_iterator", data := Data.fields #[Value.ref p, Value.int 0 0] }) fun b o e => Heap.get?_push_of_some _ e
    have fp := I.fpOk (H' := H) (Nat.le_refl _) (I.hok.fresh (Nat.le_refl _))
    have I2 := I1.turned (t' := tk) (h' := h') (it := s.heap.objs.size) (fun b o hb e => kk b o (by simpa using hb) e) fp.1 fp.2.1 fp.2.2.2.1 fp.2.2.2.2.1 fp.2.2.2.2.2
    exact fin h' tk I2
theorem range_all (bs : List Bool) : (List.range bs.length).all (fun i => bs.getD i false) = bs.all id := by
  rw [Bool.eq_iff_iff]
  simp only [List.all_eq_true, List.mem_range, id]
  constructor
  · intro h b hb
    obtain ⟨i, hi, e⟩ := List.getElem_of_mem hb
    have := h i hi
    simp [hi] at this
    rw [← e]; exact this
  · intro h i hi
    simp [hi]
    exact h _ (List.getElem_mem hi)
theorem range_any (bs : List Bool) : (List.range bs.length).any (fun i => bs.getD i false) = bs.any id := by
  rw [Bool.eq_iff_iff]
  simp only [List.any_eq_true, List.mem_range, id]
  constructor
  · rintro ⟨i, hi, e⟩
    simp [hi] at e
    exact ⟨_, List.getElem_mem hi, e⟩
  · rintro ⟨b, hb, e⟩
    obtain ⟨i, hi, e2⟩ := List.getElem_of_mem hb
    exact ⟨i, hi, by simp [hi, e2, e]⟩
theorem call_anyB (hc : X.calm = true) : CallR X (.builtin "any") rAny := by
  intro pins s σ H xs us Q I r h
  obtain ⟨v, bs, rfl, hd, q⟩ := h
  obtain ⟨u, rfl, ru⟩ := vals1 r
  refine call_any_walk (thn (walk_bools (Q := fun g s' => EP X pins σ Q (.bool ((List.range bs.length).any g)) s') (show X.A.in1.handled = none from I.ok.hd hc) I ru hd (fun h' tk I' => ⟨.bl _, H, I', rfl, ?_⟩)) fun it s2 hq => ?_)
  · rw [range_any]; exact q
  · obtain ⟨J, fp, wr, n, P, St, tr, e1, W, st, tt, hn, htr, k⟩ := hq
    subst hn
    exact ⟨J, fp, wr, _, P, St, tr, e1, W, st, tt, k⟩
section
variable {σ : St} {H : Hp} {Q : VK} {D : Ends} {K : PySem.W.Frag}
theorem r_any {v : V} {bs : List Bool} (hd : Dv H v (.list (bs.map PyData.bool))) (h : Q (.bl (bs.any id)) H) : rAny [v] H Q := ⟨v, bs, rfl, hd, h⟩
def ForS (x : V) (g : TG) (tb : TS) (D : Ends) (σ : St) (H1 : Hp) : Prop := ∃ z, x = .str z ∧ ∃ W : Nat → Nat → St → Hp → Prop, (∃ m, W 0 m σ H1) ∧ ∀ i m σ H, W i m σ H →
      ((Its z).stop i H ∧ D.nx σ H) ∨ ((Its z).go i H ∧ ∃ N : St → Hp → Prop, (∀ σ' H', N σ' H' → ∃ m', m' < m ∧ W (i + 1) m' σ' H') ∧ ∀ x H', (Its z).yld i H x H' → g x σ H' fun σ2 H2 => tb { D with nx := N, ct := N, bk := D.nx } σ2 H2)
end
end
end L2
namespace L2
open PySem
section
variable {H : Hp} {Q : VK} {K : PySem.W.Frag}
def rNinS : R2 := fun x y H Q => ∃ i j, x = .str i ∧ y = .str j ∧ Q (.bl (!(!(Builtin.Str.occurrences j i 0 j.length 1).isEmpty))) H
def rInS' : R2 := fun x y H Q => ∃ i j, x = .str i ∧ y = .str j ∧ Q (.bl (!(Builtin.Str.occurrences j i 0 j.length 1).isEmpty)) H
end
end L2

namespace L2
open PySem PySem.Spec PyProof.Rows PySem.W
section
variable {X : Cx}
theorem strs_at {H : Hp} : ∀ {xs : List V} {ss : List Str} {us : List Value}, Dvs H xs (ss.map PyData.str) → Vals xs us → StrsAre us ss
  | _, [], _, .nil, .nil => .nil
  | _, b :: bs, _, .cons h r, .cons q t => by
    cases h
    obtain ⟨tk, rfl⟩ := q
    exact .cons _ _ (strs_at r t)
def rJoin : V → List V → Hp → VK → Prop := fun x vs H Q => ∃ (sep : Str) (v : V) (ss : List Str), x = .str sep ∧ vs = [v] ∧ Dv H v (.list (ss.map PyData.str)) ∧ (ss.map (·.length)).sum + ss.length * sep.length ≤ 16777216 ∧ Q (.str (Txt.join sep ss)) H
end
section
variable {σ : St} {H : Hp} {Q : VK} {D : Ends} {K : PySem.W.Frag} {p : Addr} {ds : List PyData}
end
end L2

namespace L2
open PySem PySem.Calls PyProof.Rows
section
variable {X : Cx} {e k : Expr} {te tk : TE} {pos p2 : Pos}
def rRevL (K : PySem.W.Frag) : V → V → Hp → VK → Prop := fun x y H Q => ∃ a xs, x = .ref a ∧ y = .int (-1) ∧ SqL K H a xs ∧ ∀ p, H p = none → Q (.ref p) (upd H p (.lst xs.reverse))
def tSlR (K : PySem.W.Frag) (te tk : TE) : TE := fun σ H Q => te σ H fun x H1 => tk σ H1 fun y H2 => rRevL K x y H2 Q
end
section
variable {X : Cx}
def rLtS : R2 := fun x y H Q => ∃ i j, x = .str i ∧ y = .str j ∧ Q (.bl (ltS i j)) H
end
section
variable {K : PySem.W.Frag} {σ : St} {H : Hp} {Q : VK} {p : Addr} {ds : List PyData}
end
end L2

namespace L2
open PySem PySem.Spec PyProof.Rows PySem.W
def rSlS : V → Option Int → Option Int → Hp → VK → Prop := fun x lo hi H Q => ∃ z : Str, x = .str z ∧ z.length ≤ 4000 ∧ ∀ y : Str, (∀ c ∈ y.cps.toList, c ∈ z.cps.toList) → y.length ≤ z.length → Q (.str y) H
section
variable {X : Cx}
def UpS (ss : List Str) : Prop := ss.Pairwise fun a b => ltS b a = false
theorem up_of_rising : ∀ (r : List Str) (p : Str), risingS p r = true → (∀ x ∈ r, ltS x p = false) ∧ UpS r
  | [], _, _ => ⟨fun x hx => (by cases hx), List.Pairwise.nil⟩
  | y :: r, p, h => by
    unfold risingS at h
    rw [Bool.and_eq_true] at h
    obtain ⟨h1, h2⟩ := h
    have h1' : ltS y p = false := by
      have : ltCps y.cps.toList p.cps.toList = false := by simpa using h1
      rw [ltCps_eq] at this
      exact this
    obtain ⟨a, b⟩ := up_of_rising r y h2
    refine ⟨fun x hx => ?_, List.pairwise_cons.mpr ⟨a, b⟩⟩
    rcases List.mem_cons.mp hx with rfl | hx
    · exact h1'
    · exact ltS_ntr (a x hx) h1'
theorem up_of_sorted {ss : List Str} (h : sortedS ss = true) : UpS ss := by
  cases ss with
  | nil => exact List.Pairwise.nil
  | cons x r => obtain ⟨a, b⟩ := up_of_rising r x h; exact List.pairwise_cons.mpr ⟨a, b⟩
def rSortS : List V → Hp → VK → Prop := fun xs H Q => ∃ (v : V) (ss : List Str), xs = [v] ∧ Dv H v (.list (ss.map PyData.str)) ∧ ss.length < 64 ∧ ∀ (q : Addr) (H' : Hp) (ss' : List Str), Same H H' → H q = none → ss'.Perm ss → UpS ss' → LAt H' q (ss'.map PyData.str) → Q (.ref q) H'
theorem vals_strs : ∀ {us : List Value} {ss : List Str}, StrsAre us ss → Vals (ss.map V.str) us
  | _, _, .nil => .nil
  | _, _, .cons _ t r => .cons ⟨t, rfl⟩ (vals_strs r)
theorem dvs_strs {H : Hp} : ∀ (ss : List Str), Dvs H (ss.map V.str) (ss.map PyData.str)
  | [] => .nil
  | x :: r => .cons (.str x) (dvs_strs r)
theorem call_sortS : CallR X (.builtin "sorted") rSortS := by
  intro pins s σ H xs us Q I r h
  obtain ⟨v, ss, rfl, hd, hl, q⟩ := h
  obtain ⟨u, rfl, ru⟩ := vals1 r
  obtain ⟨p, ys, rfl, e, dv⟩ := hd.lst_inv
  obtain ⟨its, rvs, pl, _⟩ := I.list (e X.K)
  cases ru
  have hS := strs_at dv rvs
  refine sorted_strs pl.isList hS (by rw [← rvs.length, dv.length, List.length_map]; exact hl) fun out ss' h1 h2 h3 => ?_
  obtain ⟨ep, he⟩ := sortedAll_at s.heap its out
  have hq : H (s.heap.objs.size + 1) = none := I.hok.fresh (Nat.le_succ _)
  refine ⟨.ref (s.heap.objs.size + 1), upd H (s.heap.objs.size + 1) (.lst (ss'.map V.str)), I.laid (t' := s.toks) (fun b ob q => sortedAll_old q) (Nat.le_succ _) ?_, rfl, q _ _ ss' (same_upd hq) hq h2 (up_of_sorted h3) (lat_upd hq (dvs_strs ss') (immAll_map (fun _ => rfl) _))⟩
  exact ⟨by rw [List.length_map, h2.length_eq]; exact Nat.le_of_lt (smaller (by omega)), out.toList, ep, vals_strs h1, by simpa [seqObj] using he⟩
def rSumL : List V → Hp → VK → Prop := fun xs H Q => ∃ (v : V) (ns : List Int), xs = [v] ∧ Dv H v (.list (ns.map PyData.int)) ∧ Q (.int ns.sum) H
end
end L2
namespace L2
open PySem PySem.Spec PyProof.Rows PySem.W
section
variable {prog : Program} {w : World} {A : Around} {E : Value → Shared → Prop} {s : Shared} {it l : Addr} {its : Array Value}
end
section
variable {X : Cx} {e : Expr} {te : TE} {p p2 pos pos2 : Pos}
def rRevOf (K : PySem.W.Frag) : V → Hp → VK → Prop := fun x H Q => ∃ a xs, x = .ref a ∧ SqL K H a xs ∧ ∀ q, H q = none → Q (.ref q) (upd H q (.lst xs.reverse))
def tRevOf (K : PySem.W.Frag) (te : TE) : TE := fun σ H Q => te σ H fun x H1 => rRevOf K x H1 Q
end
section
variable {K : PySem.W.Frag} {σ : St} {H : Hp} {Q : VK} {p : Addr} {ds : List PyData} {v : V}
theorem r_sortS {ss : List Str} (hp : Dv H v (.list (ss.map PyData.str))) (hl : ss.length < 64) (k : ∀ q H' ss', Same H H' → H q = none → ss'.Perm ss → UpS ss' → LAt H' q (ss'.map PyData.str) → Q (.ref q) H') : rSortS [v] H Q := ⟨v, ss, rfl, hp, hl, k⟩
end
end L2

namespace L2
open PySem PySem.Spec PyProof.Rows PySem.W
section
variable {P : Program} {w : World} {H : Hp} {h : Heap} {d : Addr} {o : Obj} {kvs : List (Key × V)}
theorem HOk.frz (ok : HOk P w H h) (hd : H d = some (.dK kvs)) (ho : h.get? d = some o) : HOk P w (upd H d (.frz o (.dK kvs))) h := by
  intro b u q
  by_cases hb : b = d
  · subst hb
    rw [upd_same] at q
    cases q
    exact ⟨ho, ok b _ hd⟩
  · rw [upd_ne hb] at q
    refine (ok b u q).stay (fun c v _ r => r) (fun c r => ?_) fun c xs r => ?_
    · rw [upd_ne (ne_of r hd (by intro z; cases z))]; exact r
    · rw [upd_ne (ne_of r hd (by intro z; cases z))]; exact r
theorem HOk.thaw (ok : HOk P w H h) (hd : H d = some (.frz o (.dK kvs))) : HOk P w (upd H d (.dK kvs)) h := by
  intro b u q
  by_cases hb : b = d
  · subst hb
    rw [upd_same] at q
    cases q
    exact (ok b _ hd).2
  · rw [upd_ne hb] at q
    refine (ok b u q).stay (fun c v _ r => r) (fun c r => ?_) fun c xs r => ?_
    · rw [upd_ne (ne_of r hd (by intro z; cases z))]; exact r
    · rw [upd_ne (ne_of r hd (by intro z; cases z))]; exact r
end
section
variable {X : Cx} {pins : List (Addr × Obj)} {σ : St} {H : Hp} {s : Shared} {d : Addr} {o : Obj} {kvs : List (Key × V)}
theorem Inv.freeze (I : Inv X pins σ H s) (hd : H d = some (.dK kvs)) (ho : s.heap.get? d = some o) : Inv X pins σ (upd H d (.frz o (.dK kvs))) s := by
  have u : Un X.fs [] H (upd H d (.frz o (.dK kvs))) s.heap s.heap := {
    keep := fun b u e n _ _ => e
    slot := fun b u e n _ _ => ⟨u.slots, e⟩
    free := fun b u e n _ => by rw [upd_ne (Ne.symm (ne_of_none hd n))]; exact n
    there := fun b u e _ => ⟨u, e⟩
    tups := fun b xs e => by rw [upd_ne (ne_of e hd (by intro z; cases z))]; exact e
    frzs := fun b u v e => by rw [upd_ne (ne_of e hd (by intro z; cases z))]; exact e
    tbls := fun b ps e => ⟨#[], by rw [upd_ne (ne_of e hd (by intro z; cases z)), e]; simp⟩ }
  exact I.un (h' := s.heap) (t' := s.toks) u (I.hok.frz hd ho)
theorem Inv.thaw (I : Inv X pins σ H s) (hd : H d = some (.frz o (.dK kvs))) (h0 : ∀ u v, X.H₀ d ≠ some (.frz u v)) : Inv X pins σ (upd H d (.dK kvs)) s := by
  have nn : ∀ b, H b = none → upd H d (.dK kvs) b = none := fun b n => by rw [upd_ne (Ne.symm (ne_of_none hd n))]; exact n
  refine ⟨I.ok, I.os, I.bare, ⟨I.base.keep, I.base.slot, fun b u e n x => nn b (I.base.free b u e n x), I.base.there, fun b xs e => ?_, fun b u v e => ?_, fun b ps e => ?_⟩, I.loc, I.cell, nn _ I.free, fun x c e => nn c (I.freeC x c e), fun p hp => ?_, I.hok.thaw hd, I.len⟩
  · have z := I.base.tups b xs e
    rw [upd_ne (ne_of z hd (by intro q; cases q))]; exact z
  · have z := I.base.frzs b u v e
    have hb : b ≠ d := fun q => h0 u v (q ▸ e)
    rw [upd_ne hb]; exact z
  · obtain ⟨m, z⟩ := I.base.tbls b ps e
    exact ⟨m, by rw [upd_ne (ne_of z hd (by intro q; cases q))]; exact z⟩
  · obtain ⟨a1, a2, a3⟩ := I.pin p hp
    exact ⟨a1, nn _ a2, a3⟩
theorem Inv.noFrz (I : Inv X pins σ H s) (hd : H d = some (.dK kvs)) : ∀ u v, X.H₀ d ≠ some (.frz u v) := fun u v z => by
  have := I.base.frzs d u v z
  rw [hd] at this
  cases this
def tThaw (t : TE) : TE := fun σ H Q => ∃ d kvs, H d = some (.dK kvs) ∧ t σ H fun v H' => (∃ o, H' d = some (.frz o (.dK kvs))) ∧ Q v (upd H' d (.dK kvs))
theorem pe_thaw {e : Expr} {t : TE} (h : PE X e t) : PE X e (tThaw t) := by
  intro pins s σ H Q I ⟨d, kvs, hd, ht⟩
  have h0 := I.noFrz hd
  exact thn (h pins s σ H _ I ht) fun v s1 ⟨x, H1, I1, r, ⟨o, ho⟩, q⟩ => ⟨x, _, I1.thaw ho h0, r, q⟩
def thawP (d : Addr) (kvs : List (Key × V)) (R : Hp → Prop) : Hp → Prop := fun H' => (∃ o, H' d = some (.frz o (.dK kvs))) ∧ R (upd H' d (.dK kvs))
def thawD (d : Addr) (kvs : List (Key × V)) (D : Ends) : Ends := { nx := fun z => thawP d kvs (D.nx z), rt := fun z => thawP d kvs (D.rt z), bk := fun z => thawP d kvs (D.bk z), ct := fun z => thawP d kvs (D.ct z) }
def tThawS (t : TS) : TS := fun D σ H => ∃ d kvs, H d = some (.dK kvs) ∧ t (thawD d kvs D) σ H
theorem ps_thaw {st : Stmt} {t : TS} (h : PS X st t) : PS X st (tThawS t) := by
  intro pins s σ H D I ⟨d, kvs, hd, ht⟩
  have h0 := I.noFrz hd
  refine thn (h pins s σ H _ I ht) fun f s1 q => ?_
  cases f with
  | next => obtain ⟨σ', H', I1, ⟨o, ho⟩, q⟩ := q; exact ⟨σ', _, I1.thaw ho h0, q⟩
  | brk => obtain ⟨σ', H', I1, ⟨o, ho⟩, q⟩ := q; exact ⟨σ', _, I1.thaw ho h0, q⟩
  | cont => obtain ⟨σ', H', I1, ⟨o, ho⟩, q⟩ := q; exact ⟨σ', _, I1.thaw ho h0, q⟩
  | ret u => obtain ⟨v, σ', H', I1, r, ⟨o, ho⟩, q⟩ := q; exact ⟨v, σ', _, I1.thaw ho h0, r, q⟩
end
def Itd (d : Addr) (o : Obj) (kvs : List (Key × V)) : It := ⟨fun i H => i < kvs.length ∧ H d = some (.frz o (.dK kvs)), fun i H v H' => H' = H ∧ ∃ kv, kvs[i]? = some kv ∧ v = kV kv.1, fun i H => i = kvs.length ∧ H d = some (.frz o (.dK kvs))⟩
theorem dict_at {P : Program} {w : World} {H : Hp} {h : Heap} {d : Addr} {o : Obj} {kvs : List (Key × V)} {es : Array DictEntry} {ep : Nat} (ok : HOk P w H h) (hd : H d = some (.frz o (.dK kvs))) (he : o.data = .dict es ep) : (d == sysModules) = false ∧ ∃ vs, KV kvs vs ∧ h.DictAt (mixKind P w) d vs ep := by
  obtain ⟨ho, _, hs, vs, kv, o2, es2, ep2, a1, a2, a3, a4⟩ := ok d _ hd
  rw [ho] at a1
  cases a1
  rw [he] at a3
  cases a3
  exact ⟨hs, vs, kv, _, _, ho, a2, he, a4⟩
theorem paired_get {α β : Type} {F : α → β → Prop} : ∀ {xs : List α} {ys : List β}, Paired F xs ys → ∀ {i : Nat} {x : α}, xs[i]? = some x → ∃ y, ys[i]? = some y ∧ F x y
  | _, _, .nil, i, x, h => by simp at h
  | _, _, .cons r t, 0, x, h => by
    have e := Option.some.inj h
    exact ⟨_, rfl, e ▸ r⟩
  | _, _, .cons r t, i + 1, x, h => by
    obtain ⟨y, e, q⟩ := paired_get t (i := i) (by simpa using h)
    exact ⟨y, by simpa using e, q⟩
theorem relV_key {k : Key} {v : Value} (h : keyIs k v = true) : RelV (kV k) v := by
  rcases keyIs_shape h with ⟨i, t, rfl, rfl⟩ | ⟨x, t, rfl, rfl⟩
  · exact ⟨t, rfl⟩
  · exact ⟨t, rfl⟩
theorem turn_dict {P : Program} {w : World} {K : PySem.W.Frag} {tg : Expr} {it d : Addr} {o : Obj} {kvs : List (Key × V)} {es : Array DictEntry} {ep : Nat} (he : o.data = .dict es ep) (hne : d ≠ it) :
    Turn P w K tg (Itd d o kvs) [it] it (fun i h => h.IsKeyIter it d i kvs.length ep) where
  mem := by simp
  obj := fun i h st b hb => by
    have e : b = it := by simpa using hb
    subst e
    obtain ⟨o, e, c, d⟩ := st
    exact ⟨o, e, fun v z => by rw [d] at z; cases z⟩
  keep := fun i h h' st k => let ⟨o, e, r⟩ := st; ⟨o, k it (by simp) o e, r⟩
  item := by
    intro X hP hw hK hc i pins s σ H E I hf st hg
    subst hP hw hK
    obtain ⟨f0, f1, f2, f3, f4, f5⟩ := hf it (by simp)
    obtain ⟨hi, hd⟩ := hg
    obtain ⟨_, vs, kv, da⟩ := dict_at I.hok hd he
    have hl : vs.length = kvs.length := kv.length.symm
    refine (Walks.dictKeys (knd := mixKind X.prog X.w) (I.ok.hd hc) it d hne vs ep).item i s _ _ (by rw [hl]; exact hi) ⟨by rw [hl]; exact st, da⟩ fun v h' tk hv st' kk => ?_
    obtain ⟨k, x, hx, hk⟩ := hv
    have I1 : Inv X pins σ H { s with heap := h', toks := tk } := I.turned (fun b u hb e => kk b u (by simpa using hb) e) f0 f1 f3 f4 f5
    have st1 : h'.IsKeyIter it d (i + 1) kvs.length ep := by rw [← hl]; exact st'.1
    obtain ⟨o1, e1, c1, d1⟩ := id st1
    refine ⟨_, rfl, go_of (s := { s with heap := h', toks := tk }) e1 c1 d1 (by decide) ⟨kV k, H, I1, relV_key hk, ⟨rfl, ?_⟩, st1, fun b hb => (hf b hb).1⟩⟩
    obtain ⟨q, hq⟩ : ∃ q, kvs[i]? = some q := ⟨_, List.getElem?_eq_getElem hi⟩
    obtain ⟨y, hy, hy2⟩ := paired_get kv hq
    rw [hx] at hy
    cases hy
    exact ⟨q, hq, by rw [hy2.1]⟩
  done := by
    intro X hP hw hK hc i pins s σ H E I hf st hg
    subst hP hw hK
    obtain ⟨f0, f1, f2, f3, f4, f5⟩ := hf it (by simp)
    obtain ⟨hi, hd⟩ := hg
    obtain ⟨_, vs, kv, da⟩ := dict_at I.hok hd he
    have hl : vs.length = kvs.length := kv.length.symm
    subst hi
    refine (Walks.dictKeys (knd := mixKind X.prog X.w) (I.ok.hd hc) it d hne vs ep).done s _ _ ⟨by rw [hl]; exact st, da⟩ fun h' tk kk => ⟨rfl, I.turned (fun b u hb e => kk b u (by simpa using hb) e) f0 f1 f3 f4 f5⟩
  self := fun A i s Q E st q => wpAny_pyIter_keyiter st q
def iDict (tl : TE) : TI := fun σ H R => tl σ H fun v H1 => ∃ d kvs, v = .ref d ∧ H1 d = some (.dK kvs) ∧ ∀ o, R (Itd d o kvs) (upd H1 d (.frz o (.dK kvs)))
theorem pi_dict {X : Cx} {tg l : Expr} {tl : TE} (hl : PE X l tl) : PI X tg l (iDict tl) := by
  intro pins s σ H R I h
  refine thn (hl pins s σ H _ I h) fun v s1 ⟨y, H1, I1, r1, q1⟩ => ?_
  obtain ⟨d, kvs, rfl, hd, q⟩ := q1
  cases r1
  obtain ⟨_, hs, vs, kv, o, es, ep, ho, a2, a3, a4⟩ := (show ObjOk X.prog X.w H1 s1.heap d (.dK kvs) from I1.hok d _ hd)
  have da : s1.heap.DictAt (mixKind X.prog X.w) d vs ep := ⟨o, es, ho, a2, a3, a4⟩
  refine wpAny_pyIter_dict hs da ?_
  have I2 := I1.freeze hd ho
  have hlt : d < s1.heap.objs.size := Heap.lt_size ho
  have hlen : vs.length = kvs.length := kv.length.symm
  refine ⟨s1.heap.objs.size, [s1.heap.objs.size], _, _, _, rfl, I2.kept (t' := s1.toks) fun b u e => Heap.get?_push_of_some _ e, turn_dict a3 (Nat.ne_of_lt hlt), ⟨_, Heap.get?_push_size _ rfl, rfl, by rw [hlen]; rfl⟩, fun b hb => ?_, q o⟩
  have e : b = s1.heap.objs.size := by simpa using hb
  subst e
  exact I2.fpOk (Nat.le_refl _) (I2.hok.fresh (Nat.le_refl _))
end L2
namespace L2
open PySem PySem.Spec PyProof.Rows PySem.W
def DRd (H : Hp) (p : Addr) (m : List (Str × PyData)) : Prop := ∃ kvs, Rd H p (.dK kvs) ∧ DKs H kvs m
theorem DAt.rd {H : Hp} {p : Addr} {m : List (Str × PyData)} (h : DAt H p m) : DRd H p m := let ⟨kvs, e, d⟩ := h; ⟨kvs, .inl e, d⟩
theorem DRd.keeps {H H' : Hp} {p : Addr} {m : List (Str × PyData)} (s : Same H H') (h : DRd H p m) : DRd H' p m := by
  obtain ⟨kvs, r, d⟩ := h
  refine ⟨kvs, ?_, d.imm fun a xs e => s _ _ e⟩
  rcases r with r | ⟨o, r⟩
  · exact .inl (s _ _ r)
  · exact .inr ⟨o, s _ _ r⟩
theorem DRd.mv {S : List Addr} {H H' : Hp} {p : Addr} {m : List (Str × PyData)} (v : Mv S H H') (n : p ∉ S) (h : DRd H p m) : DRd H' p m := by
  obtain ⟨kvs, r, d⟩ := h
  refine ⟨kvs, ?_, d.imm v.tp⟩
  rcases r with r | ⟨o, r⟩
  · exact .inl (v.at n r)
  · exact .inr ⟨o, v.at n r⟩
theorem DKs.getK {H : Hp} : ∀ {kvs : List (Key × V)} {m : List (Str × PyData)}, DKs H kvs m → ∀ {i : Nat} {kv : Key × V}, kvs[i]? = some kv → ∃ k d, m[i]? = some (k, d) ∧ kv.1 = .inr k ∧ Dv H kv.2 d
  | _, _, .nil, i, kv, h => by simp at h
  | _, _, .cons (k := k) (d := d) hv _ r, 0, kv, h => by
    have e := (Option.some.inj h).symm
    subst e
    exact ⟨k, d, rfl, rfl, hv⟩
  | _, _, .cons _ _ r, i + 1, kv, h => by
    obtain ⟨k, d, e, q⟩ := DKs.getK r (i := i) (by simpa using h)
    exact ⟨k, d, by simpa using e, q⟩
section
variable {σ : St} {H : Hp} {Q : VK} {K : PySem.W.Frag} {p : Addr} {m : List (Str × PyData)} {k : Str}
theorem r_dgetR {d : PyData} {R : V → Prop} (hp : DRd H p m) (hk : lkp m k = some d) (h : GotD H d fun v _ => R v) : ∃ a v, V.ref p = .ref a ∧ DGet H a (.str k) (some v) ∧ R v := by
  obtain ⟨kvs, e, dk⟩ := hp
  obtain ⟨v, hv, hd⟩ := (dk.val (k := k)).1 d hk
  exact ⟨p, v, rfl, .inl ⟨kvs, .inr k, e, rfl, hv.symm⟩, h.use hd⟩
theorem r_dinR {R : Option V → Prop} (hp : DRd H p m) (h : ∀ o : Option V, o.isSome = (lkp m k).isSome → R o) : ∃ a o, V.ref p = .ref a ∧ DGet H a (.str k) o ∧ R o := by
  obtain ⟨kvs, e, dk⟩ := hp
  refine ⟨p, valV kvs (.inr k), rfl, .inl ⟨kvs, .inr k, e, rfl, rfl⟩, h _ ?_⟩
  obtain ⟨h1, h2⟩ := dk.val (k := k)
  cases hl : lkp m k with
  | none => rw [h2 hl]; rfl
  | some d => obtain ⟨v, hv, _⟩ := h1 d hl; rw [hv]; rfl
theorem r_lcD {n : Nat} {tl : TE} {g : TG} {tc : TT} {te : TE} (hp : DAt H p m) (htl : ∀ R : V → Hp → Prop, R (.ref p) H → tl σ H R) (pf : Str → Bool) (fd : Str → PyData) (hlen : m.length ≤ 4000) (hi : ∀ c, Imm (fd c) = true)
    (turn : ∀ c Hf H' (N : Option V → Hp → Prop), c ∈ m.map (·.1) → Mv [p] H Hf → DRd Hf p m → Same Hf H' → (pf c = true → ∀ y H4, Same H' H4 → Dv H4 y (fd c) → N (some y) H4) → (pf c = false → ∀ H3, Same H' H3 → N none H3) →
      g (.str c) (List.replicate n none ++ σ) H' fun σ2 H2 => tc σ2 H2 fun b H3 => LCT te N σ2 b H3)
    (kk : ∀ q H', Same H H' → H q = none → LAt H' q (((m.map (·.1)).filter pf).map fd) → Q (.ref q) H') : tThaw (tLC n (iDict tl) g tc te) σ H Q := by
  obtain ⟨kvs, e, dk⟩ := hp
  refine ⟨p, kvs, e, htl _ ⟨p, kvs, rfl, e, fun o => ?_⟩⟩
  have mv : Mv [p] H (upd H p (.frz o (.dK kvs))) := .of_upd e (by intro _ z; cases z)
  have rd : DRd (upd H p (.frz o (.dK kvs))) p m := ⟨kvs, .inr ⟨o, upd_same⟩, dk.imm mv.tp⟩
  have hl : kvs.length = m.length := dk.length
  refine ⟨fun i j acc H' => i ≤ m.length ∧ j = m.length - i ∧ Same (upd H p (.frz o (.dK kvs))) H' ∧ Dvs H' acc ((((m.map (·.1)).take i).filter pf).map fd), ⟨m.length, Nat.zero_le _, rfl, Same.refl _, by simpa using Dvs.nil⟩, ?_⟩
  rintro i j acc H' ⟨hi1, rfl, sm, hacc⟩
  have hfz : H' p = some (.frz o (.dK kvs)) := sm _ _ upd_same
  have hal : acc.length ≤ m.length := by
    rw [hacc.length, List.length_map]
    refine Nat.le_trans (List.length_filter_le _ _) ?_
    rw [List.length_take, List.length_map]
    omega
  by_cases hc : i = m.length
  · left
    refine ⟨⟨by omega, hfz⟩, fun q hq => ?_⟩
    have hpq : p ≠ q := ne_of_none hfz hq
    have tk : (m.map (·.1)).take i = m.map (·.1) := List.take_of_length_le (by rw [List.length_map]; omega)
    rw [tk] at hacc
    have ups : upd (upd H' q (.lst acc)) p (.dK kvs) q = some (.lst acc) := by rw [upd_ne (Ne.symm hpq), upd_same]
    refine ⟨⟨o, by rw [upd_ne hpq]; exact hfz⟩, kk q _ (fun a u z => ?_) ?_ ⟨acc, ups, hacc.imm (fun a xs z => ?_) (immAll_map hi _), immAll_map hi _⟩⟩
    · by_cases ha : a = p
      · subst ha; rw [e] at z; cases z; exact upd_same
      · have z1 : H' a = some u := sm _ _ (by rw [upd_ne ha]; exact z)
        rw [upd_ne ha, upd_ne (ne_of_none z1 hq)]; exact z1
    · cases hz : H q with
      | none => rfl
      | some u =>
        have : H' q = some u := sm _ _ (by rw [upd_ne (Ne.symm hpq)]; exact hz)
        rw [hq] at this; cases this
    · rw [upd_ne (ne_of z hfz (by intro y; cases y)), upd_ne (ne_of_none z hq)]; exact z
  · right
    have hlt : i < m.length := by omega
    refine ⟨⟨by omega, hfz⟩, smaller (by omega), fun x H2 hy => ?_⟩
    obtain ⟨rfl, kv, hkv, rfl⟩ := hy
    obtain ⟨c, d, hm, hkc, _⟩ := dk.getK hkv
    have hcs : (m.map (·.1))[i]? = some c := by rw [List.getElem?_map, hm]; rfl
    have htk : (m.map (·.1)).take (i + 1) = (m.map (·.1)).take i ++ [c] := by rw [List.take_add_one, hcs]; rfl
    rw [show kV kv.1 = .str c by rw [hkc]; rfl]
    refine turn c _ H2 (fun r H4 => match r with | some y => ∃ j', j' < m.length - i ∧ i + 1 ≤ m.length ∧ j' = m.length - (i + 1) ∧ Same (upd H p (.frz o (.dK kvs))) H4 ∧ Dvs H4 (acc ++ [y]) ((((m.map (·.1)).take (i + 1)).filter pf).map fd) | none => ∃ j', j' < m.length - i ∧ i + 1 ≤ m.length ∧ j' = m.length - (i + 1) ∧ Same (upd H p (.frz o (.dK kvs))) H4 ∧ Dvs H4 acc ((((m.map (·.1)).take (i + 1)).filter pf).map fd))
      (List.mem_of_getElem? hcs) mv rd sm (fun hb y H4 s4 d4 => ⟨m.length - (i + 1), by omega, hlt, rfl, sm.trans s4, ?_⟩) (fun hb H3 s3 => ⟨m.length - (i + 1), by omega, hlt, rfl, sm.trans s3, ?_⟩)
    · rw [htk, List.filter_append, List.map_append]
      simp only [List.filter_cons, hb, if_true, List.filter_nil, List.map_cons, List.map_nil]
      exact Dvs.append (hacc.keeps s4) (.cons d4 .nil)
    · rw [htk, List.filter_append, List.map_append]
      simp only [List.filter_cons, hb, Bool.false_eq_true, if_false, List.filter_nil, List.map_nil, List.append_nil]
      exact hacc.keeps s3
end
end L2
namespace L2
open PySem PySem.Spec PyProof.Rows PySem.W
section
variable {X : Cx}
def mulS (i : Str) (n : Int) : Str := if n < 1 then Str.empty else if (n == 1 || i.length == 0) = true then i else ⟨(List.replicate n.toNat i.cps).foldl (· ++ ·) #[]⟩
def rMulS : R2 := fun x y H Q => ∃ i n, x = .str i ∧ y = .int n ∧ 0 ≤ n ∧ n ≤ 10 ∧ i.length ≤ 10 ∧ (mulS i n).length ≤ 4000 ∧ Q (.str (mulS i n)) H
theorem op_mulS : OpR X (binaryOp .Mult) rMulS := by
  intro pins s σ H x y v u Q I rx ry h
  obtain ⟨i, n, rfl, rfl, h0, h1, hl, hm, q⟩ := h
  obtain ⟨t, rfl⟩ := rx
  obtain ⟨t', rfl⟩ := ry
  have hl2 : ((i.length : Nat) : Int) ≤ 10 := by omega
  refine PySem.P.mul_str (by simp; omega) (fun a _ => ?_) (fun a _ => ?_) ?_
  · have c : n = 1 ∨ n = 2 ∨ n = 3 ∨ n = 4 ∨ n = 5 ∨ n = 6 ∨ n = 7 ∨ n = 8 ∨ n = 9 ∨ n = 10 := by omega
    rcases c with rfl | rfl | rfl | rfl | rfl | rfl | rfl | rfl | rfl | rfl <;> omega
  · have : i.length * n.toNat ≤ 10 * 10 := Nat.mul_le_mul hl (by omega)
    exact decide_eq_false (Nat.not_lt.mpr (Nat.le_trans this (Nat.le_of_lt (smaller (by decide)))))
  · unfold mulS at hm q
    split
    · rename_i c
      rw [if_pos c] at hm q
      exact ⟨Nat.le_of_lt (smaller hm), .str _, H, I.tok _, ⟨_, rfl⟩, q⟩
    · rename_i c
      rw [if_neg c] at hm q
      split
      · rename_i c2
        rw [if_pos c2] at hm q
        exact ⟨.str _, H, I, ⟨_, rfl⟩, q⟩
      · rename_i c2
        rw [if_neg c2] at hm q
        exact ⟨Nat.le_of_lt (smaller hm), .str _, H, I.tok _, ⟨_, rfl⟩, q⟩
def rDPop : V → List V → Hp → VK → Prop := fun x vs H Q => ∃ a kvs k v, x = .ref a ∧ vs = [kV k] ∧ H a = some (.dK kvs) ∧ valV kvs k = some v ∧ Q v (upd H a (.dK (dropK kvs k)))
theorem mt_dpop : MtM X "dict.pop" rDPop := by
  intro pins s σ H x vs v us Q I rx rv h
  obtain ⟨a, kvs, k, y, rfl, rfl, hH, hv, q⟩ := h
  cases rx
  obtain ⟨u, rfl, ru⟩ := rv.one
  exact d_pop I hH ru hv (.inl rfl) fun w' s' I' r => ⟨y, _, I', r, q⟩
end
section
variable {σ : St} {H : Hp} {Q : VK} {K : PySem.W.Frag} {p : Addr} {m : List (Str × PyData)} {k : Str}
theorem r_mulS {i : Str} {n : Int} (h0 : 0 ≤ n) (h1 : n ≤ 10) (hl : i.length ≤ 10) (hm : (mulS i n).length ≤ 4000) (h : Q (.str (mulS i n)) H) : rMulS (.str i) (.int n) H Q := ⟨i, n, rfl, rfl, h0, h1, hl, hm, h⟩
theorem r_tyD {R : Prop} (hp : DAt H p m) (h : R) : tyV K "dict" (.ref p) H ∧ R := let ⟨kvs, e, _⟩ := hp; ⟨.inr (.inr (.inl ⟨rfl, .inl ⟨kvs, e⟩⟩)), h⟩
theorem r_dpop {d : PyData} (hp : DAt H p m) (hk : lkp m k = some d) (h : ∀ v H2, Mv [p] H H2 → DAt H2 p (dropD m k) → Q v H2) : rDPop (.ref p) [.str k] H Q := by
  obtain ⟨kvs, e, dk⟩ := hp
  obtain ⟨v, hv, hd⟩ := (dk.val (k := k)).1 d hk
  have mv : Mv [p] H (upd H p (.dK (dropK kvs (.inr k)))) := .of_upd e (by intro _ z; cases z)
  refine ⟨p, kvs, .inr k, v, rfl, rfl, e, hv, h v _ mv ⟨_, upd_same, dk.drop.imm mv.tp⟩⟩
end
section
variable {σ : St} {H : Hp} {Q : VK} {K : PySem.W.Frag} {p : Addr}
end
section
variable {X : Cx}
def BoolsD (m : List (Str × PyData)) : Prop := ∀ x ∈ m, ∃ b, x.2 = .bool b
def rEqDD : R2 := fun x y H Q => ∃ a b m, x = .ref a ∧ y = .ref b ∧ DAt H a m ∧ DAt H b m ∧ BoolsD m ∧ Q (.bl true) H
end
end L2

namespace L2
open PySem PySem.Spec PyProof.Rows PySem.W
theorem push_other {h : Heap} {o u : Obj} {b : Addr} (e : (h.push o).get? b = some u) (n : b ≠ h.objs.size) : h.get? b = some u := by
  obtain ⟨e1, e2⟩ := Heap.get?_some_iff.mp e
  refine Heap.get?_some_iff.mpr ⟨?_, e2⟩
  cases h
  simpa [Heap.push, Array.getElem?_push, n] using e1
section
variable {prog : Program} {w : World} {K : Type} [DecidableEq K] {knd : KeyKind prog w K} {A : Around} {E : Value → Shared → Prop} {s : Shared} {d : Addr} {kvs : List (K × Value)} {ep : Nat}
theorem ext_dict {R : Result → Shared → Prop} (hh : A.handled = none) (hd : (d == sysModules) = false) (y : Addr) (c0 : Nat) (hz : kvs.length ≤ sizeLine) (hm : s.heap.DictAt knd d kvs ep)
    (hy : s.heap.get? y = some { cls := .type "list", data := .seq #[] c0 }) (hyd : y ≠ d)
    (hR : ∀ s' acc c, s'.gens = s.gens → s'.drawn = s.drawn → s'.os = s.os → (∀ b o, b ≠ y → s.heap.get? b = some o → s'.heap.get? b = some o) → s'.heap.get? y = some { cls := .type "list", data := .seq acc c } → ItemsOf (fun i v => ∃ k x, kvs[i]? = some (k, x) ∧ knd.is k v = true) acc kvs.length → R (.ok (.ret .none)) s') :
    wpAny (model prog w) A.in1 (Builtin.List.listExtendWith (.ref y) (.ref d) .none)
      (fun f s' => match f with | .done g => R (.ok g) s' | .again c => c.quiet = true ∧ codeAny (model prog w) A c R s') (fun e s' => R (.error e) s') s := by
  have hT : s.TypeIs (.ref d) "dict" := hm.dictOf.typeIs
  have hyl : y < s.heap.objs.size := Heap.lt_size hy
  have hdl : d < s.heap.objs.size := hm.lt_size
  have W := (Walks.dictKeys (knd := knd) (A := A.in1) hh s.heap.objs.size d (Nat.ne_of_lt hdl) kvs ep).toS
  have nf : y ∉ [s.heap.objs.size, d] := by simp [hyd, Nat.ne_of_lt hyl]
  unfold Builtin.List.listExtendWith
  refine wpAny_bind (wpAny_typeOf hT ?_)
  have a1 : Builtin.List.listSameRef (.ref y) (.ref d) = false := by simp [Builtin.List.listSameRef, hyd]
  have a2 : (Value.type "dict" == Value.type "list") = false := by decide
  have a3 : (Value.type "dict" == Value.type "tuple") = false := by decide
  simp only [a1, a2, a3, Bool.or_self, Bool.false_eq_true, if_false]
  refine wpAny_bind (wpAny_pyIter_dict hd hm ?_)
  refine wpAny_bind (wpAny_holding ?_)
  have hT1 : Shared.TypeIs { s with heap := s.heap.push { cls := .type "dict_keyiterator", data := .fields #[.ref d, .int 0 0, .int kvs.length 0, .int ep 0] } } (.ref d) "dict" := by
    obtain ⟨o, es, e, c, _⟩ := id hm
    exact ⟨o, Heap.get?_push_of_some _ e, c.1⟩
  unfold Builtin.List.listLengthHint
  refine wpAny_bind (wpAny_specialOf hT1 F.slot_dict_len.lookup ?_)
  generalize hid : ("dict.__len__" : String) = id0
  wp_delta
  rw [show splitId id0 = some ("dict", "__len__") from by subst hid; decide +kernel]
  subst hid
  refine wpAny_bind (wpAny_isInstance (T := "dict") (b := true) hT1 (by rw [isSubtype_type]; kernel_rfl) ?_)
  refine wpAny_ite_split (fun hab => absurd hab (by decide)) (fun _ => ?_)
  refine wpAny_ite_split (fun _ => ?_) (fun hab => absurd (by decide +kernel) hab)
  refine wpAny_bind (wpAny_typeOf hT1 (wpAny_pure ?_))
  show wpAny _ A.in1 (rule "list.extend.makes-room" >>= fun _ => Builtin.List.listTouch (.ref y) >>= fun _ =>
    again (.builtin "list.extend.loop" ⟨[.ref y, .ref s.heap.objs.size, .none], []⟩)) _ _ _
  refine wpAny_bind (wpAny_rule ?_)
  have hy1 := Heap.get?_push_of_some { cls := .type "dict_keyiterator", data := .fields #[.ref d, .int 0 0, .int kvs.length 0, .int ep 0] } hy
  refine wpAny_bind ?_
  show wpAny _ A.in1 (updateSeq y (·.push .none) >>= fun _ => updateSeq y (·.pop)) _ _ _
  refine wpAny_bind (wpAny_updateSeq hy1 rfl ?_)
  have hy2 := Heap.get?_update_self (Obj.mapSeq (·.push Value.none)) hy1 rfl
  refine wpAny_updateSeq (hz := by seq_fits) hy2 rfl ?_
  have hy3 := Heap.get?_update_self (Obj.mapSeq (·.pop)) hy2 rfl
  have ot : ∀ b o, b ≠ y → (s.heap.push { cls := .type "dict_keyiterator", data := .fields #[.ref d, .int 0 0, .int kvs.length 0, .int ep 0] }).get? b = some o → (((s.heap.push { cls := .type "dict_keyiterator", data := .fields #[.ref d, .int 0 0, .int kvs.length 0, .int ep 0] }).update y (Obj.mapSeq (·.push Value.none))).update y (Obj.mapSeq (·.pop))).get? b = some o :=
    fun b o hb e => (Heap.get?_update_other _ _ (Ne.symm hb)).trans ((Heap.get?_update_other _ _ (Ne.symm hb)).trans e)
  have it0 : Heap.IsKeyIter (s.heap.push { cls := .type "dict_keyiterator", data := .fields #[.ref d, .int 0 0, .int kvs.length 0, .int ep 0] }) s.heap.objs.size d 0 kvs.length ep := ⟨_, Heap.get?_push_size _ rfl, rfl, rfl⟩
  refine wpAny_pure ⟨plainId_quiet F.plain_extend_loop _, codeAny_extend_loopS W hz _ nf _ kvs.length 0 _ _ _ rfl (Nat.zero_le _) ⟨it0.at fun o e => ot _ o (Ne.symm (Nat.ne_of_lt hyl)) e, (hm.push _).at' fun o e => ot _ o (Ne.symm hyd) e⟩ hy3 (ItemsOf.nil _) fun s' acc c hmv hs hacc => ?_⟩
  refine hR s' acc c hmv.gens hmv.drawn hmv.os (fun b o hb e => hmv.heap b o ?_ (ot b o hb (Heap.get?_push_of_some _ e))) hs hacc
  simp [hb, Nat.ne_of_lt (Heap.lt_size e)]
theorem call_list_dict {Q : Value → Shared → Prop} (hh : A.handled = none) (hd : (d == sysModules) = false) (hz : kvs.length ≤ sizeLine) (hm : s.heap.DictAt knd d kvs ep)
    (hQ : ∀ s' acc c, s'.gens = s.gens → s'.drawn = s.drawn → s'.os = s.os → (∀ b o, s.heap.get? b = some o → s'.heap.get? b = some o) → s'.heap.get? s.heap.objs.size = some { cls := .type "list", data := .seq acc c } → ItemsOf (fun i v => ∃ k x, kvs[i]? = some (k, x) ∧ knd.is k v = true) acc kvs.length → Q (.ref s.heap.objs.size) s') :
    wpAny (model prog w) A (call (.type "list") [.ref d]) Q E s := by
  have hdl : d < s.heap.objs.size := hm.lt_size
  refine callType_codes (Q₁ := fun u s1 => u = .ref s.heap.objs.size ∧ s1 = { s with heap := s.heap.push { cls := .type "list", data := .seq #[] } }) F.called_list (F.typeCall_list_1 _) F.entry_list_init (code_list_new _ ⟨rfl, rfl⟩) fun u s1 hu => ?_
  obtain ⟨rfl, rfl⟩ := hu
  have h0 : (s.heap.push { cls := .type "list", data := .seq #[] }).get? s.heap.objs.size = some { cls := .type "list", data := .seq #[] } := Heap.get?_push_size _ rfl
  refine ⟨⟨_, h0, rfl⟩, F.args_list_init_2 _ _, ?_⟩
  show wpAny _ _ (Builtin.List.listItems (.ref s.heap.objs.size) >>= fun old => Builtin.List.listUpdate (.ref s.heap.objs.size) (fun _ => #[]) >>= fun _ => letGo old.toList.reverse >>= fun _ => Builtin.List.listExtendWith (.ref s.heap.objs.size) (.ref d) .none) _ _ _
  refine wpAny_bind ?_
  unfold Builtin.List.listItems
  refine wpAny_bind (wpAny_seqItems h0 rfl (wpAny_pure (wpAny_bind ?_)))
  refine wpAny_updateSeq h0 rfl (wpAny_bind (wpAny_letGo ?_))
  have h2 := Heap.get?_update_self (Obj.mapSeq (fun _ => (#[] : Array Value))) h0 rfl
  have ot : ∀ b o, b ≠ s.heap.objs.size → s.heap.get? b = some o → ((s.heap.push { cls := .type "list", data := .seq #[] }).update s.heap.objs.size (Obj.mapSeq (fun _ => (#[] : Array Value)))).get? b = some o := fun b o hb e => by
    rw [Heap.get?_update_other _ _ (Ne.symm hb)]
    exact Heap.get?_push_of_some _ e
  refine ext_dict (A := A.in1) hh hd _ _ hz (hm.at' fun o e => ot d o (Nat.ne_of_lt hdl) e) h2 (Ne.symm (Nat.ne_of_lt hdl)) fun s' acc c e1 e2 e3 hm' hs hacc => ?_
  exact ⟨rfl, hQ s' acc c e1 e2 e3 (fun b o e => hm' b o (Nat.ne_of_lt (Heap.lt_size e)) (ot b o (Nat.ne_of_lt (Heap.lt_size e)) e)) hs hacc⟩
end
section
variable {X : Cx}
def rListD : List V → Hp → VK → Prop := fun xs H Q => ∃ p kvs, xs = [.ref p] ∧ Rd H p (.dK kvs) ∧ ∀ q, H q = none → Q (.ref q) (upd H q (.lst (kvs.map fun kv => kV kv.1)))
theorem items_keys {P : Program} {w : World} {kvs : List (Key × V)} {vs : List (Key × Value)} {acc : Array Value} (kv : KV kvs vs) (h : ItemsOf (fun i v => ∃ k x, vs[i]? = some (k, x) ∧ (mixKind P w).is k v = true) acc vs.length) : Vals (kvs.map fun kv => kV kv.1) acc.toList := by
  obtain ⟨h0, h1⟩ := h
  have key : ∀ (kvs : List (Key × V)) (vs : List (Key × Value)), KV kvs vs → ∀ l : List Value, l.length = vs.length → (∀ (i : Nat) (v : Value), l[i]? = some v → ∃ k x, vs[i]? = some (k, x) ∧ (mixKind P w).is k v = true) → Vals (kvs.map fun kv => kV kv.1) l := by
    intro kvs vs r
    induction r with
    | nil =>
      intro l hl _
      cases l with
      | nil => exact .nil
      | cons => simp at hl
    | cons r t ih =>
      intro l hl hi
      cases l with
      | nil => simp at hl
      | cons v l =>
        refine .cons ?_ (ih l (by simpa using hl) fun i v e => ?_)
        · obtain ⟨k, x, e, hk⟩ := hi 0 v rfl
          have e' := Option.some.inj e
          dsimp only
          rw [r.1, e']
          exact relV_key hk
        · exact hi (i + 1) v (by simpa using e)
  exact key kvs vs kv acc.toList (by simpa using h0) fun i v e => h1 i v (by simpa using e)
theorem call_listD (hc : X.calm = true) : CallR X (.type "list") rListD := by
  intro pins s σ H xs us Q I rv h
  obtain ⟨p, kvs, rfl, hH, q⟩ := h
  obtain ⟨u, rfl, ru⟩ := rv.one
  cases ru
  have ob : ObjOk X.prog X.w H s.heap p (.dK kvs) := by
    rcases hH with e | ⟨o, e⟩
    · exact I.hok p _ e
    · exact (I.hok p _ e).2
  obtain ⟨hz, hs, vs, kv, dof⟩ := ob
  obtain ⟨ep, da⟩ := dof.dictAt
  have hlen : vs.length = kvs.length := kv.length.symm
  refine call_list_dict (I.ok.hd hc) hs (by rw [hlen]; exact hz) da fun s' acc c eg ed eo hk hs' hacc => ?_
  obtain ⟨h', g', d', tk', os'⟩ := s'
  have eg : g' = s.gens := eg
  have ed : d' = s.drawn := ed
  have eo : os' = s.os := eo
  subst eg; subst ed; subst eo
  refine ⟨.ref s.heap.objs.size, _, I.laid (t' := tk') (o := .lst (kvs.map fun kv => kV kv.1)) (fun b ob e => hk b ob e) (Nat.le_refl _) ?_, rfl, q _ (I.hok.fresh (Nat.le_refl _))⟩
  exact ⟨by rw [List.length_map]; exact hz, acc.toList, c, items_keys kv hacc, by simpa using hs'⟩
end
section
variable {σ : St} {H : Hp} {Q : VK} {p : Addr} {m : List (Str × PyData)}
theorem DKs.keys {H H' : Hp} : ∀ {kvs : List (Key × V)} {m : List (Str × PyData)}, DKs H kvs m → Dvs H' (kvs.map fun kv => kV kv.1) ((m.map (·.1)).map PyData.str)
  | _, _, .nil => .nil
  | _, _, .cons _ _ r => .cons (.str _) (DKs.keys r)
theorem immAll_strs : ∀ ss : List Str, ImmAll (ss.map PyData.str) = true
  | [] => rfl
  | _ :: r => by rw [List.map_cons, ImmAll, immAll_strs r]; rfl
theorem r_listD (hp : DRd H p m) (k : ∀ q H', Same H H' → H q = none → LAt H' q ((m.map (·.1)).map PyData.str) → Q (.ref q) H') : rListD [.ref p] H Q := by
  obtain ⟨kvs, e, dk⟩ := hp
  exact ⟨p, kvs, rfl, e, fun q hq => k q _ (same_upd hq) hq (lat_upd hq dk.keys (immAll_strs _))⟩
end
theorem entry_itemiter_iter : entryFor table "dict_itemiterator.__iter__" = some Builtin.«dict_keyiterator.__iter__» :=
  entryFor_alias (id' := "dict_keyiterator.__iter__") (by kernel_rfl) rfl (by decide +kernel) (by kernel_rfl)
def Iti (d : Addr) (o : Obj) (kvs : List (Key × V)) : It := ⟨fun i H => i < kvs.length ∧ H d = some (.frz o (.dK kvs)), fun i H v H' => ∃ t kv, kvs[i]? = some kv ∧ v = .ref t ∧ H t = none ∧ H' = upd H t (.tup [kV kv.1, kv.2]), fun i H => i = kvs.length ∧ H d = some (.frz o (.dK kvs))⟩
theorem turn_items {P : Program} {w : World} {K : PySem.W.Frag} {elts : List Expr} {x1} {pos : Pos} {it d : Addr} {o : Obj} {kvs : List (Key × V)} {es : Array DictEntry} {ep : Nat} (he : o.data = .dict es ep) (hne : d ≠ it) :
    Turn P w K (.Tuple elts x1 pos) (Iti d o kvs) [it] it (fun i h => ∃ ok ov, IsItemIter h it d i kvs.length ep ok ov) where
  mem := by simp
  obj := fun i h st b hb => by
    have e : b = it := by simpa using hb
    subst e
    obtain ⟨ok, ov, e⟩ := st
    exact ⟨_, e, fun v z => by cases z⟩
  keep := fun i h h' st k => let ⟨ok, ov, e⟩ := st; ⟨ok, ov, k it (by simp) _ e⟩
  item := by
    intro X hP hw hK hc i pins s σ H E I hf st hg
    subst hP hw hK
    obtain ⟨f0, f1, f2, f3, f4, f5⟩ := hf it (by simp)
    obtain ⟨hi, hd⟩ := hg
    obtain ⟨_, vs, kv, da⟩ := dict_at I.hok hd he
    have hl : vs.length = kvs.length := kv.length.symm
    obtain ⟨ok, ov, st⟩ := st
    obtain ⟨q, hq⟩ : ∃ q, kvs[i]? = some q := ⟨_, List.getElem?_eq_getElem hi⟩
    obtain ⟨⟨k, v⟩, hy, hy2⟩ := paired_get kv hq
    have hil : it < s.heap.objs.size := Heap.lt_size st
    have hn : H s.heap.objs.size = none := I.hok.fresh (Nat.le_refl _)
    refine wpAny_pyNext_items_item (knd := mixKind X.prog X.w) (by rw [hl]; exact st) da hy fun key h' hk hit ht hz kk => ?_
    rw [hl] at hit
    refine ⟨_, rfl, wpAny_letOwnedTupleGo_items (s := { s with heap := h' }) hit fun h2 hit2 sb => ?_⟩
    have I1 : Inv X pins σ (upd H s.heap.objs.size (.tup [kV q.1, q.2])) { s with heap := s.heap.push { cls := .type "tuple", data := .seq #[key, v] } } :=
      I.laid (t' := s.toks) (fun b u e => Heap.get?_push_of_some _ e) (Nat.le_refl _) (show ObjOk X.prog X.w _ _ _ (.tup [kV q.1, q.2]) from ⟨by rw [sizeLine_eq]; simp, [key, v], .cons (by rw [hy2.1]; exact relV_key hk) (.cons hy2.2 .nil), IsTup.new _ _⟩)
    have hni : upd H s.heap.objs.size (.tup [kV q.1, q.2]) it = none := by rw [upd_ne (Nat.ne_of_lt hil)]; exact f0
    have I2 : Inv X pins σ (upd H s.heap.objs.size (.tup [kV q.1, q.2])) { s with heap := h2 } := by
      refine Inv.turned (s := { s with heap := s.heap.push { cls := .type "tuple", data := .seq #[key, v] } }) (h' := h2) (t' := s.toks) (it := it) I1 (fun b u hb e => ?_) hni f1 f3 f4 f5
      by_cases hbn : b = s.heap.objs.size
      · subst hbn
        have e0 : (s.heap.push { cls := .type "tuple", data := .seq #[key, v] }).get? s.heap.objs.size = some { cls := .type "tuple", data := .seq #[key, v] } := Heap.get?_push_size _ rfl
        have e1 := e0.symm.trans e
        cases e1
        exact (sb.2 _ hb).trans ht
      · exact (sb.2 _ hb).trans (kk b u hb (push_other e hbn))
    refine ⟨.ref s.heap.objs.size, _, I2, rfl, ⟨_, q, hq, rfl, hn, rfl⟩, ⟨_, _, hit2⟩, fun b hb => ?_⟩
    have e : b = it := by simpa using hb
    rw [e]
    exact hni
  done := by
    intro X hP hw hK hc i pins s σ H E I hf st hg
    subst hP hw hK
    obtain ⟨f0, f1, f2, f3, f4, f5⟩ := hf it (by simp)
    obtain ⟨hi, hd⟩ := hg
    obtain ⟨_, vs, kv, da⟩ := dict_at I.hok hd he
    have hl : vs.length = kvs.length := kv.length.symm
    obtain ⟨ok, ov, st⟩ := st
    refine wpAny_pyNext_items_end (knd := mixKind X.prog X.w) (I.ok.hd hc) (by rw [hl]; exact st) da (by rw [hi, ← hl]; simp) fun h' hx => ⟨rfl, I.turned (t' := s.toks) (fun b u hb e => hx b u hb e) f0 f1 f3 f4 f5⟩
  self := fun A i s Q E st q => by
    obtain ⟨ok, ov, st⟩ := st
    have hT : s.TypeIs (.ref it) "dict_itemiterator" := ⟨_, st, rfl⟩
    refine wpAny_pyIter_slot hT F.slot_dict_itemiterator_iter (wpAny_call_entry F.slot_dict_itemiterator_iter hT entry_itemiter_iter ?_ (F.args_dict_itemiterator_iter_1 _))
    show wpAny _ _ (ret (.ref it)) _ _ s
    exact wpAny_pure ⟨_, rfl, "dict_itemiterator", _, hT, F.slot_dict_itemiterator_next.lookup, q⟩
def iItems (tl : TE) : TI := fun σ H R => tl σ H fun v H1 => ∃ d kvs, v = .ref d ∧ H1 d = some (.dK kvs) ∧ ∀ o, R (Iti d o kvs) (upd H1 d (.frz o (.dK kvs)))
theorem pi_items {X : Cx} {elts : List Expr} {x1} {tpos : Pos} {l : Expr} {tl : TE} {apos cpos : Pos} (hl : PE X l tl)
    (hbase : attributeBase l "items" X.env (eval l X.env) = eval l X.env := by rfl) (hline : (apos.endLine == cpos.line) = true := by rfl) : PI X (.Tuple elts x1 tpos) (.Call (.Attribute l "items" apos) [] [] cpos) (iItems tl) := by
  intro pins s σ H R I h
  refine wpAny_Call_method0_late hbase hline (thn (hl pins s σ H _ I h) fun v s1 ⟨y, H1, I1, r1, q1⟩ => ?_)
  obtain ⟨d, kvs, rfl, hd, q⟩ := q1
  obtain ⟨h1, h2⟩ := tyV_is I1 (T := "dict") r1 (.inr (.inr (.inl ⟨rfl, .inl ⟨kvs, hd⟩⟩)))
  cases r1
  refine ⟨"dict", "dict.items", PySem.F.plainAttrs_dict, PySem.F.slot_dict_items, PySem.F.type_dict_items, h1, h2, Calls.callWith_builtin rfl (PySem.evalArgs_none ?_)⟩
  obtain ⟨_, hs, vs, kv, o, es, ep, ho, a2, a3, a4⟩ := (show ObjOk X.prog X.w H1 s1.heap d (.dK kvs) from I1.hok d _ hd)
  have da : s1.heap.DictAt (mixKind X.prog X.w) d vs ep := ⟨o, es, ho, a2, a3, a4⟩
  have hlt : d < s1.heap.objs.size := Heap.lt_size ho
  have hlen : vs.length = kvs.length := kv.length.symm
  refine call_meetsIn PySem.F.slot_dict_items da.dictOf.typeIs PySem.F.entry_dict_items (PySem.F.args_dict_items_1 _) (meets_dict_items (mixKind X.prog X.w) d hs) ⟨⟨vs, da.dictOf⟩, ?_⟩
  refine wpAny_pyIter_items (v := s1.heap.objs.size) ⟨_, Heap.get?_push_size _ rfl, rfl, rfl⟩ (da.push _) ?_
  have I2 := I1.freeze hd ho
  have hsz : (s1.heap.push { cls := .type "dict_items", data := .fields #[.ref d] }).objs.size = s1.heap.objs.size + 1 := Heap.size_push ..
  refine ⟨_, [_], _, _, _, rfl, I2.kept (t' := s1.toks) fun b u e => Heap.get?_push_of_some _ (Heap.get?_push_of_some _ e), turn_items a3 (Nat.ne_of_lt (by rw [hsz]; exact Nat.lt_succ_of_lt hlt)), ⟨_, _, by rw [← hlen]; exact Heap.get?_push_size _ rfl⟩, fun b hb => ?_, q o⟩
  have e : b = (s1.heap.push { cls := .type "dict_items", data := .fields #[.ref d] }).objs.size := by simpa using hb
  subst e
  exact I2.fpOk (by rw [hsz]; exact Nat.le_succ _) (I2.hok.fresh (by rw [hsz]; exact Nat.le_succ _))
def ForI (p : Addr) (o : Obj) (kvs : List (Key × V)) (g : TG) (tb : TS) (D : Ends) (σ : St) (H1 : Hp) : Prop := ∃ W : Nat → Nat → St → Hp → Prop, (∃ m, W 0 m σ H1) ∧ ∀ i m σ H, W i m σ H →
  ((Iti p o kvs).stop i H ∧ D.nx σ H) ∨ ((Iti p o kvs).go i H ∧ ∃ N : St → Hp → Prop, (∀ σ' H', N σ' H' → ∃ m', m' < m ∧ W (i + 1) m' σ' H') ∧ ∀ x H', (Iti p o kvs).yld i H x H' → g x σ H' fun σ2 H2 => tb { D with nx := N, ct := N, bk := D.nx } σ2 H2)
section
variable {σ : St} {H : Hp} {D : Ends} {p : Addr} {m : List (Str × PyData)} {g : TG} {tb : TS}
theorem Same.thaw {H H' : Hp} {p : Addr} {o : Obj} {kvs : List (Key × V)} (e : H p = some (.dK kvs)) (m : Same (upd H p (.frz o (.dK kvs))) H') : Same H (upd H' p (.dK kvs)) := fun b u hb => by
  by_cases z : b = p
  · subst z; rw [e] at hb; cases hb; exact upd_same
  · rw [upd_ne z]; exact m _ _ (by rw [upd_ne z]; exact hb)
theorem r_forItems {tl : TE} (hp : DAt H p m) (htl : ∀ R : V → Hp → Prop, R (.ref p) H → tl σ H R)
    (body : ∀ o kvs, H p = some (.dK kvs) → DKs H kvs m → ForI p o kvs g tb (thawD p kvs D) σ (upd H p (.frz o (.dK kvs)))) : tThawS (tFor (iItems tl) g tb) D σ H := by
  obtain ⟨kvs, e, dk⟩ := hp
  exact ⟨p, kvs, e, htl _ ⟨p, kvs, rfl, e, fun o => body o kvs e dk⟩⟩
theorem forI {o : Obj} {kvs : List (Key × V)} (e : H p = some (.dK kvs)) (dk : DKs H kvs m) (S : List Addr) (hS : p ∉ S) (Pv : Nat → St → Hp → Prop) (h0 : Pv 0 σ (upd H p (.frz o (.dK kvs))))
    (hk : ∀ i σ' H', Pv i σ' H' → Mv S (upd H p (.frz o (.dK kvs))) H')
    (hs : ∀ i k d t σ' H' H2, m[i]? = some (k, d) → Pv i σ' H' → DRd H' p m → Same H' H2 → Dv H2 (.ref t) (.tuple [.str k, d]) → g (.ref t) σ' H2 fun σ2 H3 => tb { thawD p kvs D with nx := Pv (i + 1), ct := Pv (i + 1), bk := (thawD p kvs D).nx } σ2 H3)
    (hd : ∀ σ' H', Pv m.length σ' H' → D.nx σ' (upd H' p (.dK kvs))) : ForI p o kvs g tb (thawD p kvs D) σ (upd H p (.frz o (.dK kvs))) := by
  have mv : Mv [p] H (upd H p (.frz o (.dK kvs))) := .of_upd e (by intro _ z; cases z)
  have hl : kvs.length = m.length := dk.length
  refine ⟨fun i j σ' H' => i ≤ m.length ∧ j = m.length - i ∧ Pv i σ' H', ⟨m.length, Nat.zero_le _, rfl, h0⟩, ?_⟩
  rintro i j σ' H' ⟨hi, rfl, hP⟩
  have mv' := hk i σ' H' hP
  have hfz : H' p = some (.frz o (.dK kvs)) := mv'.at hS upd_same
  have dk' : DKs H' kvs m := (dk.imm mv.tp).imm mv'.tp
  by_cases hc : i = m.length
  · left
    subst hc
    exact ⟨⟨hl.symm, hfz⟩, ⟨o, hfz⟩, hd σ' H' hP⟩
  · right
    have hlt : i < m.length := by omega
    refine ⟨⟨by omega, hfz⟩, Pv (i + 1), fun σ2 H2 h2 => ⟨m.length - (i + 1), by omega, hlt, rfl, h2⟩, ?_⟩
    rintro x H2 ⟨t, kv, hkv, rfl, ht, rfl⟩
    obtain ⟨k, d, hm, hkc, hdv⟩ := dk'.getK hkv
    have sm : Same H' (upd H' t (.tup [kV kv.1, kv.2])) := same_upd ht
    refine hs i k d t σ' H' _ hm hP ⟨kvs, .inr ⟨o, hfz⟩, dk'⟩ sm ?_
    have e1 : kV kv.1 = .str k := by rw [hkc]; rfl
    rw [e1] at sm ⊢
    exact .tup upd_same (.cons (.str _) (.cons (hdv.keeps sm) .nil))
end
section
variable {σ : St} {H : Hp} {K : PySem.W.Frag}
theorem r_unpP {x : V} {i j : Nat} {d1 d2 : PyData} {R : St → Hp → Prop} (hd : Dv H x (.tuple [d1, d2])) (h : ∀ v1 v2, Dv H v1 d1 → Dv H v2 d2 → R ((σ.set i (some v1)).set j (some v2)) H) :
    gTup K 2 (gCons (gName i) (gCons (gName j) gNil)) x σ H R := by
  cases hd with
  | tup ha r =>
    cases r with
    | cons h1 r =>
      cases r with
      | cons h2 r =>
        cases r
        exact ⟨_, _, rfl, .of ha, rfl, _, _, rfl, _, _, rfl, rfl, h _ _ h1 h2⟩
end
end L2

set_option maxHeartbeats 4000000
namespace My
open PySem L2
local macro_rules | `(tactic| walk_at "same") => `(tactic| first
  | exact Same.refl _
  | assumption
  | (refine' Same.trans ?m ?s; (case s => assumption); (case m => walk_at "same")))
local macro_rules | `(tactic| walk_at "at") => `(tactic| first
  | assumption
  | exact upd_same
  | (refine' Same.at ?s ?m; (case s => assumption); (case m => walk_at "at")))
local macro_rules | `(tactic| walk_at "dat") => `(tactic| first
  | exact Dv.int _
  | exact Dv.non
  | exact Dv.bl _
  | exact Dv.str _
  | assumption
  | (refine' Dv.keeps ?s ?m; (case s => assumption); (case m => walk_at "dat")))
local macro_rules | `(tactic| walk_at "ins") => `(tactic| first
  | assumption
  | (refine' Ins.keeps ?s ?m; (case s => assumption); (case m => walk_at "ins")))
local macro_rules | `(tactic| walk_at "dats") => `(tactic| first
  | exact Dvs.nil
  | (refine' Dvs.cons ?m ?s; (case m => walk_at "dat"); (case s => walk_at "dats"))
  | assumption
  | (refine' Dvs.keeps ?s ?m; (case s => assumption); (case m => walk_at "dats")))
local macro_rules | `(tactic| walk_at "sql") => `(tactic| first
  | assumption
  | (refine' Same.seq ?s ?m; (case s => assumption); (case m => walk_at "sql")))
local macro_rules | `(tactic| walk_at "isq") => `(tactic| first
  | (refine' Or.inl ?m; case m => walk_at "dat")
  | (refine' Or.inr ?m; case m => walk_at "dat"))
set_option hygiene false in
local macro_rules | `(tactic| walk_at "side") => `(tactic| first
  | omega
  | assumption
  | exact (by decide)
  | exact cdivB (by omega) (by omega)
  | exact ⟨by decide, by decide, by decide⟩)
set_option hygiene false in
local macro_rules | `(tactic| walk_at "use") => `(tactic| fail)
set_option hygiene false in
local macro_rules | `(tactic| walk_at "lk") => `(tactic| fail)
set_option hygiene false in
local macro_rules | `(tactic| walk_at "put") => `(tactic| fail)
set_option hygiene false in
local macro_rules | `(tactic| walk_at "fin") => `(tactic| fail)
set_option hygiene false in
local macro_rules | `(tactic| walk_at "wds") => `(tactic| first
  | with_reducible refine r_wd (ws := [_]) rfl ?_
  | with_reducible refine r_wd (ws := [_, _]) rfl ?_
  | with_reducible refine r_wd (ws := [_, _, _]) rfl ?_
  | with_reducible refine r_wd (ws := [_, _, _, _]) rfl ?_
  | with_reducible refine r_wd (ws := [_, _, _, _, _]) rfl ?_
  | with_reducible refine r_wd (ws := [_, _, _, _, _, _]) rfl ?_
  | with_reducible refine r_wd (ws := []) rfl ?_)
set_option hygiene false in
local macro_rules | `(tactic| walk_at "mks") => `(tactic| first
  | fail)
local macro_rules | `(tactic| walk_at "br") => `(tactic| ((with_reducible refine if_bl (fun hb => ?_) (fun hb => ?_)) <;> (try simp only [id, decide_eq_true_eq, decide_eq_false_iff_not, Bool.not_eq_true', Bool.not_eq_false', Bool.not_true, Bool.not_false, V.int.injEq, Bool.true_eq_false, Bool.false_eq_true, reduceCtorEq, decide_true, decide_false, not_true, not_false_iff, PyData.eqv, PyData.eqvAll, Bool.and_eq_true, Bool.and_eq_false_iff, Bool.or_eq_true, Bool.or_eq_false_iff, beq_iff_eq, beq_eq_false_iff_ne, ne_eq, bne_iff_ne, Bool.and_true, Bool.and_false, Bool.and_self, beq_self_eq_true, isInt, isBool, isStr, isLst, isTup, isDct, List.length_cons, List.length_nil] at hb) <;> (try (exfalso; omega)) <;> (try (exfalso; (refine' ref_ne hb ?d); (case d => walk_at "dat")))))
local macro_rules | `(tactic| walk_at "rd1") => `(tactic| first
  | with_reducible refine r_cutS ?_
  | with_reducible refine r_asg ?_
  | with_reducible refine r_ret ?_
  | with_reducible refine r_drop ?_
  | with_reducible refine r_ifS ?_
  | ((with_reducible refine' r_var ?e ?_); case e => exact rfl)
  | with_reducible refine r_c ?_
  | with_reducible refine r_op ?_
  | with_reducible refine r_un ?_
  | with_reducible refine r_i0 ?_
  | ((with_reducible refine' r_i ?e ?_); case e => walk_at "side")
  | with_reducible refine r_u ?_
  | with_reducible refine r_cons ?_
  | with_reducible refine r_nil ?_
  | with_reducible refine r_callN ?_
  | with_reducible refine r_cb ?_
  | with_reducible refine r_test ?_
  | with_reducible refine r_and ?_
  | with_reducible refine r_or ?_
  | with_reducible refine r_not ?_
  | with_reducible refine r_andV ?_
  | with_reducible refine r_notV ?_
  | with_reducible refine r_bl ?_
  | with_reducible refine r_truB ?_
  | with_reducible refine if_true' ?_
  | with_reducible refine if_false' ?_
  | walk_at "br"
  | with_reducible refine r_next ?_
  | ((with_reducible refine' r_eqS ?e ?_); case e => exact rfl)
  | ((with_reducible refine' r_eqD ?e1 ?e2 ?e3 ?e4 ?e5 ?_); (case e1 => walk_at "dat"); (case e2 => walk_at "dat"); (case e3 => first | rfl | assumption); (case e4 => first | rfl | assumption); (case e5 => first | exact Nat.le_of_ble_eq_true rfl | assumption))
  | ((with_reducible refine' r_ixD ?e1 ?e2 ?_); (case e1 => walk_at "isq"); (case e2 => exact rfl))
  | ((with_reducible refine' r_lenK ?e ?_); case e => walk_at "isq")
  | ((with_reducible refine' r_lenL ?e ?_); case e => walk_at "sql")
  | ((with_reducible refine' r_modP ?e (fun _ _ => ?_)); case e => walk_at "side")
  | with_reducible refine r_is ?_
  | with_reducible refine r_sfld ?_
  | ((with_reducible refine' r_sfldv ?e1 ?e2 ?e3 ?e4 ?e5 ?_); (case e1 => walk_at "at"); (case e2 => assumption); (case e3 => assumption); (case e4 => exact len1000 rfl); (case e5 => walk_at "put"))
  | ((with_reducible refine' r_fldI ?e1 ?e2 ?e3 ?e4 ?_); (case e1 => walk_at "ins"); (case e2 => assumption); (case e3 => assumption); (case e4 => walk_at "lk"))
  | ((with_reducible refine' r_methI ?e1 ?e2 ?_); (case e1 => walk_at "ins"); (case e2 => walk_at "lk"))
  | ((with_reducible refine' r_isi_bool ?e ?_); case e => walk_at "dat")
  | with_reducible refine got_non ?_
  | with_reducible refine got_str ?_
  | with_reducible refine got_bl ?_
  | with_reducible refine r_lstD ?_
  | with_reducible refine r_turn ?_
  | with_reducible refine r_for ?_
  | with_reducible refine r_fld ?_
  | with_reducible refine r_methN ?_
  | with_reducible refine r_makeN ?_
  | walk_at "wds"
  | walk_at "mks"
  | walk_at "use"
  | walk_at "fin")
local macro_rules | `(tactic| walk_at "lat") => `(tactic| first
  | assumption
  | (refine' LAt.keeps ?s ?m; (case s => assumption); (case m => walk_at "lat"))
  | (refine' LAt.mv ?s ?n ?m; (case s => assumption); (case n => walk_at "nin"); (case m => walk_at "lat"))
  | fail)
local macro_rules | `(tactic| walk_at "nin") => `(tactic| first
  | (refine' notin1 ?n1; (case n1 => walk_at "ne"))
  | fail)
local macro_rules | `(tactic| walk_at "ne") => `(tactic| first
  | assumption
  | (refine Ne.symm ?_; assumption)
  | (refine' LAt.ne ?h ?n; (case n => assumption); (case h => walk_at "lat"))
  | (refine' Ne.symm (LAt.ne ?h ?n); (case n => assumption); (case h => walk_at "lat"))
  | fail)
local macro_rules | `(tactic| walk_at "dla") => `(tactic| first
  | assumption
  | (refine' DAt.keeps ?s ?m; (case s => assumption); (case m => walk_at "dla"))
  | (refine' DAt.mv ?s ?n ?m; (case s => assumption); (case n => walk_at "nin"); (case m => walk_at "dla"))
  | fail)
local macro_rules | `(tactic| walk_at "ne") => `(tactic| first
  | (refine' DAt.ne ?h ?n; (case n => assumption); (case h => walk_at "dla"))
  | (refine' Ne.symm (DAt.ne ?h ?n); (case n => assumption); (case h => walk_at "dla"))
  | fail)
local macro_rules | `(tactic| walk_at "imm") => `(tactic| first
  | rfl
  | assumption
  | exact immAll_map (fun _ => rfl) _
  | (refine' LAt.imm ?h; (case h => assumption))
  | fail)
local macro_rules | `(tactic| walk_at "dm") => `(tactic| first
  | exact fun _ h => h
  | (refine' dm_trans ?a ?b; (case b => first | (refine' Same.dm' ?c; (case c => assumption)) | (refine' Mv.dm ?c; (case c => assumption)) | fail); (case a => walk_at "dm"))
  | fail)
local macro_rules | `(tactic| walk_at "none") => `(tactic| first
  | assumption
  | (refine' dm_use ?s ?m; (case m => assumption); (case s => walk_at "dm"))
  | fail)
local macro_rules | `(tactic| walk_at "same") => `(tactic| first
  | (refine' Mv.sameN ?s ?m ?n; (case m => assumption); (case s => walk_at "same"); (case n => walk_at "none"))
  | fail)
local macro_rules | `(tactic| walk_at "mv") => `(tactic| first
  | exact Mv.refl
  | assumption
  | (refine' Mv.stepS ?m ?s; (case s => assumption); (case m => walk_at "mv"))
  | (refine' Mv.step ?m ?s ?h; (case s => assumption); (case m => walk_at "mv"); (case h => walk_at "ours"))
  | fail)
set_option hygiene false in
local macro_rules | `(tactic| walk_at "ours") => `(tactic| first
  | fail)
local macro_rules | `(tactic| walk_at "dat") => `(tactic| first
  | (refine' LAt.dv ?m; (case m => walk_at "lat"))
  | fail)
local macro_rules | `(tactic| walk_at "dats") => `(tactic| first
  | (refine' Mv.dats ?s ?i ?m; (case s => assumption); (case i => walk_at "imm"); (case m => walk_at "dats"))
  | fail)
set_option hygiene false in
local macro_rules | `(tactic| walk_at "len") => `(tactic| first
  | (simp only [List.length_map, List.length_append, List.length_cons, List.length_nil]; omega)
  | omega
  | fail)
local macro_rules | `(tactic| walk_at "rd1") => `(tactic| first
  | ((with_reducible refine' r_any ?e ?_); case e => walk_at "dat")
  | with_reducible refine r_tB ?_
  | with_reducible refine r_dnew (fun _ _ _ _ _ => ?_)
  | with_reducible refine r_dputT ?_
  | with_reducible refine r_dgetT ?_
  | with_reducible refine r_dinT ?_
  | with_reducible refine r_dninT ?_
  | ((with_reducible refine' r_dput ?e1 ?e2 ?e3 ?e4 (fun _ _ _ => ?_)); (case e1 => walk_at "dla"); (case e3 => walk_at "dat"); (case e2 => walk_at "len"); (case e4 => walk_at "imm"))
  | with_reducible refine r_gname ?_
  | with_reducible refine r_bm ?_
  | ((with_reducible refine' r_tyL ?e ?_); case e => walk_at "lat")
  | ((with_reducible refine' r_app ?e1 ?e2 ?e3 ?e4 (fun _ _ _ => ?_)); (case e1 => walk_at "lat"); (case e3 => walk_at "dat"); (case e2 => walk_at "len"); (case e4 => walk_at "imm"))
  | ((with_reducible refine' r_lstA ?e1 ?e2 ?e3 (fun _ _ _ _ _ => ?_)); (case e1 => exact len64 rfl); (case e2 => walk_at "dats"); (case e3 => exact rfl))
  | with_reducible refine r_sl ?_
  | with_reducible refine r_part ?_
  | with_reducible refine r_partI ?_
  | with_reducible refine r_lcT ?_
  | ((with_reducible refine' r_inS ?e ?_); case e => walk_at "dat")
  | ((with_reducible refine' r_ninS ?e ?_); case e => walk_at "dat")
  | ((with_reducible refine' r_addS ?e ?_); case e => walk_at "len")
  | ((with_reducible refine' r_lenM ?e ?_); case e => walk_at "dat")
  | ((with_reducible refine' r_ixD ?e1 ?e2 ?_); (case e1 => walk_at "isq"); (case e2 => first | exact atI_lastM | (refine' atI_mapI ?a ?b; (case a => omega); (case b => walk_at "len")) | fail))
  | fail)
set_option hygiene false in
local macro_rules | `(tactic| walk_at "rd1") => `(tactic| first
  | fail)
local macro_rules | `(tactic| walk_at "rd1") => `(tactic| first
  | ((with_reducible refine' r_sortS ?e1 ?e2 (fun _ _ _ _ _ _ _ _ => ?_)); (case e1 => walk_at "dat"); (case e2 => walk_at "len"))
  | fail)

def top (i : Nat) : Stmt := PySem.Challenge.pw_wakefew_k23_awake_by_marks.main.body.getD i (.Pass ⟨0, 0, 0, 0⟩)
abbrev s_Groups___init__ : Stmt := inClass (top 8) 0
theorem sc_Groups___init__ : FnScope ["self"] ["self"] (defScope s_Groups___init__) := ⟨rfl, rfl, rfl, by decide +kernel, rfl, by decide +kernel, by decide +kernel⟩
abbrev s_Groups_add : Stmt := inClass (top 8) 1
theorem sc_Groups_add : FnScope ["self", "name", "above"] ["self", "name", "above"] (defScope s_Groups_add) := ⟨rfl, rfl, rfl, by decide +kernel, rfl, by decide +kernel, by decide +kernel⟩
abbrev s_Groups_sleep : Stmt := inClass (top 8) 3
theorem sc_Groups_sleep : FnScope ["self", "name", "ahead"] ["self", "name"] (defScope s_Groups_sleep) := ⟨rfl, rfl, rfl, by decide +kernel, rfl, by decide +kernel, by decide +kernel⟩
abbrev s_Groups_wake : Stmt := inClass (top 8) 4
theorem sc_Groups_wake : FnScope ["self", "name", "ahead"] ["self", "name"] (defScope s_Groups_wake) := ⟨rfl, rfl, rfl, by decide +kernel, rfl, by decide +kernel, by decide +kernel⟩
abbrev s_Groups_awake : Stmt := inClass (top 8) 6
theorem sc_Groups_awake : FnScope ["self", "name"] ["self", "name"] (defScope s_Groups_awake) := ⟨rfl, rfl, rfl, by decide +kernel, rfl, by decide +kernel, by decide +kernel⟩
abbrev s_Groups_marked : Stmt := inClass (top 8) 7
theorem sc_Groups_marked : FnScope ["self", "name"] ["self", "name"] (defScope s_Groups_marked) := ⟨rfl, rfl, rfl, by decide +kernel, rfl, by decide +kernel, by decide +kernel⟩
abbrev s_Groups_chain : Stmt := inClass (top 8) 8
theorem sc_Groups_chain : FnScope ["self", "name", "names"] ["self", "name"] (defScope s_Groups_chain) := ⟨rfl, rfl, rfl, by decide +kernel, rfl, by decide +kernel, by decide +kernel⟩
abbrev s_Groups_within : Stmt := inClass (top 8) 9
theorem sc_Groups_within : FnScope ["self", "name"] ["self", "name"] (defScope s_Groups_within) := ⟨rfl, rfl, rfl, by decide +kernel, rfl, by decide +kernel, by decide +kernel⟩
abbrev s_Groups_check_stands : Stmt := inClass (top 8) 11
theorem sc_Groups_check_stands : FnScope ["self", "name"] ["self", "name"] (defScope s_Groups_check_stands) := ⟨rfl, rfl, rfl, by decide +kernel, rfl, by decide +kernel, by decide +kernel⟩
abbrev s_Groups_depth_of : Stmt := inClass (top 8) 12
theorem sc_Groups_depth_of : FnScope ["self", "name"] ["self", "name"] (defScope s_Groups_depth_of) := ⟨rfl, rfl, rfl, by decide +kernel, rfl, by decide +kernel, by decide +kernel⟩
abbrev s_Groups_awake_within : Stmt := inClass (top 8) 13
theorem sc_Groups_awake_within : FnScope ["self", "name"] ["self", "name"] (defScope s_Groups_awake_within) := ⟨rfl, rfl, rfl, by decide +kernel, rfl, by decide +kernel, by decide +kernel⟩
abbrev s_Groups_unmark : Stmt := inClass (top 8) 14
theorem sc_Groups_unmark : FnScope ["self", "name"] ["self", "name"] (defScope s_Groups_unmark) := ⟨rfl, rfl, rfl, by decide +kernel, rfl, by decide +kernel, by decide +kernel⟩
abbrev s__law_cell_at : Stmt := top 10
theorem sc__law_cell_at : FnScope ["_law_script", "_law_k"] ["_law_script", "_law_k"] (defScope s__law_cell_at) := ⟨rfl, rfl, rfl, by decide +kernel, rfl, by decide +kernel, by decide +kernel⟩
abbrev s__law_name : Stmt := top 11
theorem sc__law_name : FnScope ["_law_k", "_law_style", "_law_some"] ["_law_k", "_law_style"] (defScope s__law_name) := ⟨rfl, rfl, rfl, by decide +kernel, rfl, by decide +kernel, by decide +kernel⟩
abbrev s__law_named : Stmt := top 12
theorem sc__law_named : FnScope ["_law_names", "_law_cell"] ["_law_names", "_law_cell"] (defScope s__law_named) := ⟨rfl, rfl, rfl, by decide +kernel, rfl, by decide +kernel, by decide +kernel⟩
abbrev s__law_truth_is : Stmt := top 13
theorem sc__law_truth_is : FnScope ["_law_found", "_law_due"] ["_law_found", "_law_due"] (defScope s__law_truth_is) := ⟨rfl, rfl, rfl, by decide +kernel, rfl, by decide +kernel, by decide +kernel⟩
abbrev s__law_stands : Stmt := top 14
theorem sc__law_stands : FnScope ["_law_told", "_law_marks", "_law_name_here", "_law_mark", "_law_awake", "_law_one"] ["_law_told", "_law_marks"] (defScope s__law_stands) := ⟨rfl, rfl, rfl, by decide +kernel, rfl, by decide +kernel, by decide +kernel⟩
abbrev s_law : Stmt := top 15
theorem sc_law : FnScope ["_law_script", "_law_style", "_law_told", "_law_marks", "_law_cell", "_law_names", "_law_above", "_law_name_here"] ["_law_script"] (defScope s_law) := ⟨rfl, rfl, rfl, by decide +kernel, rfl, by decide +kernel, by decide +kernel⟩
theorem ne_above_of_marks : ¬ (("above_of" : Str) = "marks") := by decide +kernel
theorem ne_marks_above_of : ¬ (("marks" : Str) = "above_of") := by decide +kernel
theorem ne___init___above_of : ¬ (("__init__" : Str) = "above_of") := by decide +kernel
theorem ne___init___marks : ¬ (("__init__" : Str) = "marks") := by decide +kernel
theorem ne_add_above_of : ¬ (("add" : Str) = "above_of") := by decide +kernel
theorem ne_add_marks : ¬ (("add" : Str) = "marks") := by decide +kernel
theorem ne_has_above_of : ¬ (("has" : Str) = "above_of") := by decide +kernel
theorem ne_has_marks : ¬ (("has" : Str) = "marks") := by decide +kernel
theorem ne_sleep_above_of : ¬ (("sleep" : Str) = "above_of") := by decide +kernel
theorem ne_sleep_marks : ¬ (("sleep" : Str) = "marks") := by decide +kernel
theorem ne_wake_above_of : ¬ (("wake" : Str) = "above_of") := by decide +kernel
theorem ne_wake_marks : ¬ (("wake" : Str) = "marks") := by decide +kernel
theorem ne_end_above_of : ¬ (("end" : Str) = "above_of") := by decide +kernel
theorem ne_end_marks : ¬ (("end" : Str) = "marks") := by decide +kernel
theorem ne_awake_above_of : ¬ (("awake" : Str) = "above_of") := by decide +kernel
theorem ne_awake_marks : ¬ (("awake" : Str) = "marks") := by decide +kernel
theorem ne_marked_above_of : ¬ (("marked" : Str) = "above_of") := by decide +kernel
theorem ne_marked_marks : ¬ (("marked" : Str) = "marks") := by decide +kernel
theorem ne_chain_above_of : ¬ (("chain" : Str) = "above_of") := by decide +kernel
theorem ne_chain_marks : ¬ (("chain" : Str) = "marks") := by decide +kernel
theorem ne_within_above_of : ¬ (("within" : Str) = "above_of") := by decide +kernel
theorem ne_within_marks : ¬ (("within" : Str) = "marks") := by decide +kernel
theorem ne_all_of_above_of : ¬ (("all_of" : Str) = "above_of") := by decide +kernel
theorem ne_all_of_marks : ¬ (("all_of" : Str) = "marks") := by decide +kernel
theorem ne_check_stands_above_of : ¬ (("check_stands" : Str) = "above_of") := by decide +kernel
theorem ne_check_stands_marks : ¬ (("check_stands" : Str) = "marks") := by decide +kernel
theorem ne_depth_of_above_of : ¬ (("depth_of" : Str) = "above_of") := by decide +kernel
theorem ne_depth_of_marks : ¬ (("depth_of" : Str) = "marks") := by decide +kernel
theorem ne_awake_within_above_of : ¬ (("awake_within" : Str) = "above_of") := by decide +kernel
theorem ne_awake_within_marks : ¬ (("awake_within" : Str) = "marks") := by decide +kernel
theorem ne_unmark_above_of : ¬ (("unmark" : Str) = "above_of") := by decide +kernel
theorem ne_unmark_marks : ¬ (("unmark" : Str) = "marks") := by decide +kernel
set_option hygiene false in
local macro_rules | `(tactic| walk_at "lk") => `(tactic| first
  | assumption
  | (rw [lookup_look]; ((conv => lhs; simp only [look, reduceIte, ne_above_of_marks, ne_marks_above_of, ne___init___above_of, ne___init___marks, ne_add_above_of, ne_add_marks, ne_has_above_of, ne_has_marks, ne_sleep_above_of, ne_sleep_marks, ne_wake_above_of, ne_wake_marks, ne_end_above_of, ne_end_marks, ne_awake_above_of, ne_awake_marks, ne_marked_above_of, ne_marked_marks, ne_chain_above_of, ne_chain_marks, ne_within_above_of, ne_within_marks, ne_all_of_above_of, ne_all_of_marks, ne_check_stands_above_of, ne_check_stands_marks, ne_depth_of_above_of, ne_depth_of_marks, ne_awake_within_above_of, ne_awake_within_marks, ne_unmark_above_of, ne_unmark_marks]) <;> exact rfl)))
set_option hygiene false in
local macro_rules | `(tactic| walk_at "put") => `(tactic| ((conv => lhs; simp only [putF, reduceIte, ne_above_of_marks, ne_marks_above_of, ne___init___above_of, ne___init___marks, ne_add_above_of, ne_add_marks, ne_has_above_of, ne_has_marks, ne_sleep_above_of, ne_sleep_marks, ne_wake_above_of, ne_wake_marks, ne_end_above_of, ne_end_marks, ne_awake_above_of, ne_awake_marks, ne_marked_above_of, ne_marked_marks, ne_chain_above_of, ne_chain_marks, ne_within_above_of, ne_within_marks, ne_all_of_above_of, ne_all_of_marks, ne_check_stands_above_of, ne_check_stands_marks, ne_depth_of_above_of, ne_depth_of_marks, ne_awake_within_above_of, ne_awake_within_marks, ne_unmark_above_of, ne_unmark_marks]) <;> exact rfl))
set_option genSizeOf false in
set_option genInjectivity false in
structure Ad where
  f_Groups___init__ : Addr
  fd_Groups___init__ : FuncData
  f_Groups_add : Addr
  fd_Groups_add : FuncData
  dT_Groups_add : Addr
  f_Groups_sleep : Addr
  fd_Groups_sleep : FuncData
  f_Groups_wake : Addr
  fd_Groups_wake : FuncData
  f_Groups_awake : Addr
  fd_Groups_awake : FuncData
  f_Groups_marked : Addr
  fd_Groups_marked : FuncData
  f_Groups_chain : Addr
  fd_Groups_chain : FuncData
  f_Groups_within : Addr
  fd_Groups_within : FuncData
  f_Groups_check_stands : Addr
  fd_Groups_check_stands : FuncData
  f_Groups_depth_of : Addr
  fd_Groups_depth_of : FuncData
  f_Groups_awake_within : Addr
  fd_Groups_awake_within : FuncData
  f_Groups_unmark : Addr
  fd_Groups_unmark : FuncData
  f__law_cell_at : Addr
  fd__law_cell_at : FuncData
  f__law_name : Addr
  fd__law_name : FuncData
  f__law_named : Addr
  fd__law_named : FuncData
  f__law_truth_is : Addr
  fd__law_truth_is : FuncData
  f__law_stands : Addr
  fd__law_stands : FuncData
  f_law : Addr
  fd_law : FuncData
  C_Groups : Addr
  tkG_MOST_DEPTH : Tok
structure Txt (K : PySem.W.Frag) (mg : Str → Option Value) (a : Ad) : Prop where
  F_Groups___init__ : FunD K "__init__" "Groups.__init__" s_Groups___init__ a.f_Groups___init__ (.none) a.fd_Groups___init__
  kp_Groups___init__ : PySem.W.keepIn K (.ref a.f_Groups___init__) = true
  F_Groups_add : FunD K "add" "Groups.add" s_Groups_add a.f_Groups_add (.ref a.dT_Groups_add) a.fd_Groups_add
  kp_Groups_add : PySem.W.keepIn K (.ref a.f_Groups_add) = true
  D_Groups_add : DefT K a.dT_Groups_add #[.none]
  F_Groups_sleep : FunD K "sleep" "Groups.sleep" s_Groups_sleep a.f_Groups_sleep (.none) a.fd_Groups_sleep
  kp_Groups_sleep : PySem.W.keepIn K (.ref a.f_Groups_sleep) = true
  F_Groups_wake : FunD K "wake" "Groups.wake" s_Groups_wake a.f_Groups_wake (.none) a.fd_Groups_wake
  kp_Groups_wake : PySem.W.keepIn K (.ref a.f_Groups_wake) = true
  F_Groups_awake : FunD K "awake" "Groups.awake" s_Groups_awake a.f_Groups_awake (.none) a.fd_Groups_awake
  kp_Groups_awake : PySem.W.keepIn K (.ref a.f_Groups_awake) = true
  F_Groups_marked : FunD K "marked" "Groups.marked" s_Groups_marked a.f_Groups_marked (.none) a.fd_Groups_marked
  kp_Groups_marked : PySem.W.keepIn K (.ref a.f_Groups_marked) = true
  F_Groups_chain : FunD K "chain" "Groups.chain" s_Groups_chain a.f_Groups_chain (.none) a.fd_Groups_chain
  kp_Groups_chain : PySem.W.keepIn K (.ref a.f_Groups_chain) = true
  F_Groups_within : FunD K "within" "Groups.within" s_Groups_within a.f_Groups_within (.none) a.fd_Groups_within
  kp_Groups_within : PySem.W.keepIn K (.ref a.f_Groups_within) = true
  F_Groups_check_stands : FunD K "check_stands" "Groups.check_stands" s_Groups_check_stands a.f_Groups_check_stands (.none) a.fd_Groups_check_stands
  kp_Groups_check_stands : PySem.W.keepIn K (.ref a.f_Groups_check_stands) = true
  F_Groups_depth_of : FunD K "depth_of" "Groups.depth_of" s_Groups_depth_of a.f_Groups_depth_of (.none) a.fd_Groups_depth_of
  kp_Groups_depth_of : PySem.W.keepIn K (.ref a.f_Groups_depth_of) = true
  F_Groups_awake_within : FunD K "awake_within" "Groups.awake_within" s_Groups_awake_within a.f_Groups_awake_within (.none) a.fd_Groups_awake_within
  kp_Groups_awake_within : PySem.W.keepIn K (.ref a.f_Groups_awake_within) = true
  F_Groups_unmark : FunD K "unmark" "Groups.unmark" s_Groups_unmark a.f_Groups_unmark (.none) a.fd_Groups_unmark
  kp_Groups_unmark : PySem.W.keepIn K (.ref a.f_Groups_unmark) = true
  F__law_cell_at : FunD K "_law_cell_at" "_law_cell_at" s__law_cell_at a.f__law_cell_at (.none) a.fd__law_cell_at
  kp__law_cell_at : PySem.W.keepIn K (.ref a.f__law_cell_at) = true
  mg__law_cell_at : mg "_law_cell_at" = some (.ref a.f__law_cell_at)
  F__law_name : FunD K "_law_name" "_law_name" s__law_name a.f__law_name (.none) a.fd__law_name
  kp__law_name : PySem.W.keepIn K (.ref a.f__law_name) = true
  mg__law_name : mg "_law_name" = some (.ref a.f__law_name)
  F__law_named : FunD K "_law_named" "_law_named" s__law_named a.f__law_named (.none) a.fd__law_named
  kp__law_named : PySem.W.keepIn K (.ref a.f__law_named) = true
  mg__law_named : mg "_law_named" = some (.ref a.f__law_named)
  F__law_truth_is : FunD K "_law_truth_is" "_law_truth_is" s__law_truth_is a.f__law_truth_is (.none) a.fd__law_truth_is
  kp__law_truth_is : PySem.W.keepIn K (.ref a.f__law_truth_is) = true
  mg__law_truth_is : mg "_law_truth_is" = some (.ref a.f__law_truth_is)
  F__law_stands : FunD K "_law_stands" "_law_stands" s__law_stands a.f__law_stands (.none) a.fd__law_stands
  kp__law_stands : PySem.W.keepIn K (.ref a.f__law_stands) = true
  mg__law_stands : mg "_law_stands" = some (.ref a.f__law_stands)
  F_law : FunD K "law" "law" s_law a.f_law (.none) a.fd_law
  kp_law : PySem.W.keepIn K (.ref a.f_law) = true
  mg_law : mg "law" = some (.ref a.f_law)
  mg_Groups : mg "Groups" = some (.ref a.C_Groups)
  cl_Groups : Cls K a.C_Groups
  na_Groups_above_of : NoAttr K a.C_Groups "above_of"
  na_Groups_marks : NoAttr K a.C_Groups "marks"
  M_Groups : Mk K a.C_Groups a.f_Groups___init__
  m_Groups_add : Meth K a.C_Groups "add" a.f_Groups_add
  m_Groups_sleep : Meth K a.C_Groups "sleep" a.f_Groups_sleep
  m_Groups_wake : Meth K a.C_Groups "wake" a.f_Groups_wake
  m_Groups_awake : Meth K a.C_Groups "awake" a.f_Groups_awake
  m_Groups_marked : Meth K a.C_Groups "marked" a.f_Groups_marked
  m_Groups_chain : Meth K a.C_Groups "chain" a.f_Groups_chain
  m_Groups_within : Meth K a.C_Groups "within" a.f_Groups_within
  m_Groups_check_stands : Meth K a.C_Groups "check_stands" a.f_Groups_check_stands
  m_Groups_depth_of : Meth K a.C_Groups "depth_of" a.f_Groups_depth_of
  m_Groups_awake_within : Meth K a.C_Groups "awake_within" a.f_Groups_awake_within
  m_Groups_unmark : Meth K a.C_Groups "unmark" a.f_Groups_unmark
  ty_Groups : TyCls K a.C_Groups
  mg_MOST_DEPTH : mg "MOST_DEPTH" = some (.int 8 a.tkG_MOST_DEPTH)
  no_any : mg "any" = none
  no_bool : mg "bool" = none
  no_isinstance : mg "isinstance" = none
  no_len : mg "len" = none
  no_list : mg "list" = none
  no_sorted : mg "sorted" = none
theorem txt_mk {K : PySem.W.Frag} {h : Heap} {mg : Str → Option Value} {f_Groups___init__ f_Groups_add dT_Groups_add f_Groups_sleep f_Groups_wake f_Groups_awake f_Groups_marked f_Groups_chain f_Groups_within f_Groups_check_stands f_Groups_depth_of f_Groups_awake_within f_Groups_unmark f__law_cell_at f__law_name f__law_named f__law_truth_is f__law_stands f_law C_Groups : Addr} {tkG_MOST_DEPTH : Tok} {od_Groups___init__ an_Groups___init__ : Option Addr} {sl_Groups___init__ : Array (Option Value)} {oc_Groups___init__ kV_Groups___init__ dc_Groups___init__ pm_Groups___init__ cd_Groups___init__ ct_Groups___init__ : Value} {od_Groups_add an_Groups_add : Option Addr} {sl_Groups_add : Array (Option Value)} {oc_Groups_add kV_Groups_add dc_Groups_add pm_Groups_add cd_Groups_add ct_Groups_add : Value} {dn_Groups_add : Nat} {dd_Groups_add : Option Addr} {ds_Groups_add : Array (Option Value)} {dc2_Groups_add : Value} {od_Groups_sleep an_Groups_sleep : Option Addr} {sl_Groups_sleep : Array (Option Value)} {oc_Groups_sleep kV_Groups_sleep dc_Groups_sleep pm_Groups_sleep cd_Groups_sleep ct_Groups_sleep : Value} {od_Groups_wake an_Groups_wake : Option Addr} {sl_Groups_wake : Array (Option Value)} {oc_Groups_wake kV_Groups_wake dc_Groups_wake pm_Groups_wake cd_Groups_wake ct_Groups_wake : Value} {od_Groups_awake an_Groups_awake : Option Addr} {sl_Groups_awake : Array (Option Value)} {oc_Groups_awake kV_Groups_awake dc_Groups_awake pm_Groups_awake cd_Groups_awake ct_Groups_awake : Value} {od_Groups_marked an_Groups_marked : Option Addr} {sl_Groups_marked : Array (Option Value)} {oc_Groups_marked kV_Groups_marked dc_Groups_marked pm_Groups_marked cd_Groups_marked ct_Groups_marked : Value} {od_Groups_chain an_Groups_chain : Option Addr} {sl_Groups_chain : Array (Option Value)} {oc_Groups_chain kV_Groups_chain dc_Groups_chain pm_Groups_chain cd_Groups_chain ct_Groups_chain : Value} {od_Groups_within an_Groups_within : Option Addr} {sl_Groups_within : Array (Option Value)} {oc_Groups_within kV_Groups_within dc_Groups_within pm_Groups_within cd_Groups_within ct_Groups_within : Value} {od_Groups_check_stands an_Groups_check_stands : Option Addr} {sl_Groups_check_stands : Array (Option Value)} {oc_Groups_check_stands kV_Groups_check_stands dc_Groups_check_stands pm_Groups_check_stands cd_Groups_check_stands ct_Groups_check_stands : Value} {od_Groups_depth_of an_Groups_depth_of : Option Addr} {sl_Groups_depth_of : Array (Option Value)} {oc_Groups_depth_of kV_Groups_depth_of dc_Groups_depth_of pm_Groups_depth_of cd_Groups_depth_of ct_Groups_depth_of : Value} {od_Groups_awake_within an_Groups_awake_within : Option Addr} {sl_Groups_awake_within : Array (Option Value)} {oc_Groups_awake_within kV_Groups_awake_within dc_Groups_awake_within pm_Groups_awake_within cd_Groups_awake_within ct_Groups_awake_within : Value} {od_Groups_unmark an_Groups_unmark : Option Addr} {sl_Groups_unmark : Array (Option Value)} {oc_Groups_unmark kV_Groups_unmark dc_Groups_unmark pm_Groups_unmark cd_Groups_unmark ct_Groups_unmark : Value} {od__law_cell_at an__law_cell_at : Option Addr} {sl__law_cell_at : Array (Option Value)} {oc__law_cell_at kV__law_cell_at dc__law_cell_at pm__law_cell_at cd__law_cell_at ct__law_cell_at : Value} {od__law_name an__law_name : Option Addr} {sl__law_name : Array (Option Value)} {oc__law_name kV__law_name dc__law_name pm__law_name cd__law_name ct__law_name : Value} {od__law_named an__law_named : Option Addr} {sl__law_named : Array (Option Value)} {oc__law_named kV__law_named dc__law_named pm__law_named cd__law_named ct__law_named : Value} {od__law_truth_is an__law_truth_is : Option Addr} {sl__law_truth_is : Array (Option Value)} {oc__law_truth_is kV__law_truth_is dc__law_truth_is pm__law_truth_is cd__law_truth_is ct__law_truth_is : Value} {od__law_stands an__law_stands : Option Addr} {sl__law_stands : Array (Option Value)} {oc__law_stands kV__law_stands dc__law_stands pm__law_stands cd__law_stands ct__law_stands : Value} {od_law an_law : Option Addr} {sl_law : Array (Option Value)} {oc_law kV_law dc_law pm_law cd_law ct_law : Value} (X : K.In h) (G : h.Ns mainGlobals mg)
    (aC_Groups : PySem.W.nsIn K mainGlobals "Groups" = some (some (.ref C_Groups)))
    (hgg : PySem.W.specialIn K (.builtin "object.__class__") "__get__" = some (some (.builtin "getset_descriptor.__get__")))
    (htt : PySem.W.takesIn K (.builtin "object.__class__") = some true)
    (a_Groups___init__ : PySem.W.findIn K (.ref C_Groups) "__init__" = some (some (.ref f_Groups___init__)))
    (l_Groups___init__ : K.lookup f_Groups___init__ = some ⟨oc_Groups___init__, od_Groups___init__, .func (PySem.W.fnOf "__init__" "Groups.__init__" (defArgs s_Groups___init__) (defBody s_Groups___init__) (defScope s_Groups___init__) (.none) kV_Groups___init__ dc_Groups___init__ pm_Groups___init__ an_Groups___init__ cd_Groups___init__ ct_Groups___init__), sl_Groups___init__⟩)
    (c_Groups___init__ : PySem.W.codeIn K cd_Groups___init__ "Groups.__init__" = true)
    (k_Groups___init__ : PySem.W.keepIn K (.ref f_Groups___init__) = true)
    (i_Groups___init__ : PySem.W.isFn K (.ref f_Groups___init__) = true)
    (a_Groups_add : PySem.W.findIn K (.ref C_Groups) "add" = some (some (.ref f_Groups_add)))
    (l_Groups_add : K.lookup f_Groups_add = some ⟨oc_Groups_add, od_Groups_add, .func (PySem.W.fnOf "add" "Groups.add" (defArgs s_Groups_add) (defBody s_Groups_add) (defScope s_Groups_add) (.ref dT_Groups_add) kV_Groups_add dc_Groups_add pm_Groups_add an_Groups_add cd_Groups_add ct_Groups_add), sl_Groups_add⟩)
    (c_Groups_add : PySem.W.codeIn K cd_Groups_add "Groups.add" = true)
    (k_Groups_add : PySem.W.keepIn K (.ref f_Groups_add) = true)
    (i_Groups_add : PySem.W.isFn K (.ref f_Groups_add) = true)
    (t_Groups_add : K.lookup dT_Groups_add = some ⟨dc2_Groups_add, dd_Groups_add, .seq #[.none] dn_Groups_add, ds_Groups_add⟩)
    (a_Groups_sleep : PySem.W.findIn K (.ref C_Groups) "sleep" = some (some (.ref f_Groups_sleep)))
    (l_Groups_sleep : K.lookup f_Groups_sleep = some ⟨oc_Groups_sleep, od_Groups_sleep, .func (PySem.W.fnOf "sleep" "Groups.sleep" (defArgs s_Groups_sleep) (defBody s_Groups_sleep) (defScope s_Groups_sleep) (.none) kV_Groups_sleep dc_Groups_sleep pm_Groups_sleep an_Groups_sleep cd_Groups_sleep ct_Groups_sleep), sl_Groups_sleep⟩)
    (c_Groups_sleep : PySem.W.codeIn K cd_Groups_sleep "Groups.sleep" = true)
    (k_Groups_sleep : PySem.W.keepIn K (.ref f_Groups_sleep) = true)
    (i_Groups_sleep : PySem.W.isFn K (.ref f_Groups_sleep) = true)
    (a_Groups_wake : PySem.W.findIn K (.ref C_Groups) "wake" = some (some (.ref f_Groups_wake)))
    (l_Groups_wake : K.lookup f_Groups_wake = some ⟨oc_Groups_wake, od_Groups_wake, .func (PySem.W.fnOf "wake" "Groups.wake" (defArgs s_Groups_wake) (defBody s_Groups_wake) (defScope s_Groups_wake) (.none) kV_Groups_wake dc_Groups_wake pm_Groups_wake an_Groups_wake cd_Groups_wake ct_Groups_wake), sl_Groups_wake⟩)
    (c_Groups_wake : PySem.W.codeIn K cd_Groups_wake "Groups.wake" = true)
    (k_Groups_wake : PySem.W.keepIn K (.ref f_Groups_wake) = true)
    (i_Groups_wake : PySem.W.isFn K (.ref f_Groups_wake) = true)
    (a_Groups_awake : PySem.W.findIn K (.ref C_Groups) "awake" = some (some (.ref f_Groups_awake)))
    (l_Groups_awake : K.lookup f_Groups_awake = some ⟨oc_Groups_awake, od_Groups_awake, .func (PySem.W.fnOf "awake" "Groups.awake" (defArgs s_Groups_awake) (defBody s_Groups_awake) (defScope s_Groups_awake) (.none) kV_Groups_awake dc_Groups_awake pm_Groups_awake an_Groups_awake cd_Groups_awake ct_Groups_awake), sl_Groups_awake⟩)
    (c_Groups_awake : PySem.W.codeIn K cd_Groups_awake "Groups.awake" = true)
    (k_Groups_awake : PySem.W.keepIn K (.ref f_Groups_awake) = true)
    (i_Groups_awake : PySem.W.isFn K (.ref f_Groups_awake) = true)
    (a_Groups_marked : PySem.W.findIn K (.ref C_Groups) "marked" = some (some (.ref f_Groups_marked)))
    (l_Groups_marked : K.lookup f_Groups_marked = some ⟨oc_Groups_marked, od_Groups_marked, .func (PySem.W.fnOf "marked" "Groups.marked" (defArgs s_Groups_marked) (defBody s_Groups_marked) (defScope s_Groups_marked) (.none) kV_Groups_marked dc_Groups_marked pm_Groups_marked an_Groups_marked cd_Groups_marked ct_Groups_marked), sl_Groups_marked⟩)
    (c_Groups_marked : PySem.W.codeIn K cd_Groups_marked "Groups.marked" = true)
    (k_Groups_marked : PySem.W.keepIn K (.ref f_Groups_marked) = true)
    (i_Groups_marked : PySem.W.isFn K (.ref f_Groups_marked) = true)
    (a_Groups_chain : PySem.W.findIn K (.ref C_Groups) "chain" = some (some (.ref f_Groups_chain)))
    (l_Groups_chain : K.lookup f_Groups_chain = some ⟨oc_Groups_chain, od_Groups_chain, .func (PySem.W.fnOf "chain" "Groups.chain" (defArgs s_Groups_chain) (defBody s_Groups_chain) (defScope s_Groups_chain) (.none) kV_Groups_chain dc_Groups_chain pm_Groups_chain an_Groups_chain cd_Groups_chain ct_Groups_chain), sl_Groups_chain⟩)
    (c_Groups_chain : PySem.W.codeIn K cd_Groups_chain "Groups.chain" = true)
    (k_Groups_chain : PySem.W.keepIn K (.ref f_Groups_chain) = true)
    (i_Groups_chain : PySem.W.isFn K (.ref f_Groups_chain) = true)
    (a_Groups_within : PySem.W.findIn K (.ref C_Groups) "within" = some (some (.ref f_Groups_within)))
    (l_Groups_within : K.lookup f_Groups_within = some ⟨oc_Groups_within, od_Groups_within, .func (PySem.W.fnOf "within" "Groups.within" (defArgs s_Groups_within) (defBody s_Groups_within) (defScope s_Groups_within) (.none) kV_Groups_within dc_Groups_within pm_Groups_within an_Groups_within cd_Groups_within ct_Groups_within), sl_Groups_within⟩)
    (c_Groups_within : PySem.W.codeIn K cd_Groups_within "Groups.within" = true)
    (k_Groups_within : PySem.W.keepIn K (.ref f_Groups_within) = true)
    (i_Groups_within : PySem.W.isFn K (.ref f_Groups_within) = true)
    (a_Groups_check_stands : PySem.W.findIn K (.ref C_Groups) "check_stands" = some (some (.ref f_Groups_check_stands)))
    (l_Groups_check_stands : K.lookup f_Groups_check_stands = some ⟨oc_Groups_check_stands, od_Groups_check_stands, .func (PySem.W.fnOf "check_stands" "Groups.check_stands" (defArgs s_Groups_check_stands) (defBody s_Groups_check_stands) (defScope s_Groups_check_stands) (.none) kV_Groups_check_stands dc_Groups_check_stands pm_Groups_check_stands an_Groups_check_stands cd_Groups_check_stands ct_Groups_check_stands), sl_Groups_check_stands⟩)
    (c_Groups_check_stands : PySem.W.codeIn K cd_Groups_check_stands "Groups.check_stands" = true)
    (k_Groups_check_stands : PySem.W.keepIn K (.ref f_Groups_check_stands) = true)
    (i_Groups_check_stands : PySem.W.isFn K (.ref f_Groups_check_stands) = true)
    (a_Groups_depth_of : PySem.W.findIn K (.ref C_Groups) "depth_of" = some (some (.ref f_Groups_depth_of)))
    (l_Groups_depth_of : K.lookup f_Groups_depth_of = some ⟨oc_Groups_depth_of, od_Groups_depth_of, .func (PySem.W.fnOf "depth_of" "Groups.depth_of" (defArgs s_Groups_depth_of) (defBody s_Groups_depth_of) (defScope s_Groups_depth_of) (.none) kV_Groups_depth_of dc_Groups_depth_of pm_Groups_depth_of an_Groups_depth_of cd_Groups_depth_of ct_Groups_depth_of), sl_Groups_depth_of⟩)
    (c_Groups_depth_of : PySem.W.codeIn K cd_Groups_depth_of "Groups.depth_of" = true)
    (k_Groups_depth_of : PySem.W.keepIn K (.ref f_Groups_depth_of) = true)
    (i_Groups_depth_of : PySem.W.isFn K (.ref f_Groups_depth_of) = true)
    (a_Groups_awake_within : PySem.W.findIn K (.ref C_Groups) "awake_within" = some (some (.ref f_Groups_awake_within)))
    (l_Groups_awake_within : K.lookup f_Groups_awake_within = some ⟨oc_Groups_awake_within, od_Groups_awake_within, .func (PySem.W.fnOf "awake_within" "Groups.awake_within" (defArgs s_Groups_awake_within) (defBody s_Groups_awake_within) (defScope s_Groups_awake_within) (.none) kV_Groups_awake_within dc_Groups_awake_within pm_Groups_awake_within an_Groups_awake_within cd_Groups_awake_within ct_Groups_awake_within), sl_Groups_awake_within⟩)
    (c_Groups_awake_within : PySem.W.codeIn K cd_Groups_awake_within "Groups.awake_within" = true)
    (k_Groups_awake_within : PySem.W.keepIn K (.ref f_Groups_awake_within) = true)
    (i_Groups_awake_within : PySem.W.isFn K (.ref f_Groups_awake_within) = true)
    (a_Groups_unmark : PySem.W.findIn K (.ref C_Groups) "unmark" = some (some (.ref f_Groups_unmark)))
    (l_Groups_unmark : K.lookup f_Groups_unmark = some ⟨oc_Groups_unmark, od_Groups_unmark, .func (PySem.W.fnOf "unmark" "Groups.unmark" (defArgs s_Groups_unmark) (defBody s_Groups_unmark) (defScope s_Groups_unmark) (.none) kV_Groups_unmark dc_Groups_unmark pm_Groups_unmark an_Groups_unmark cd_Groups_unmark ct_Groups_unmark), sl_Groups_unmark⟩)
    (c_Groups_unmark : PySem.W.codeIn K cd_Groups_unmark "Groups.unmark" = true)
    (k_Groups_unmark : PySem.W.keepIn K (.ref f_Groups_unmark) = true)
    (i_Groups_unmark : PySem.W.isFn K (.ref f_Groups_unmark) = true)
    (a__law_cell_at : PySem.W.nsIn K mainGlobals "_law_cell_at" = some (some (.ref f__law_cell_at)))
    (l__law_cell_at : K.lookup f__law_cell_at = some ⟨oc__law_cell_at, od__law_cell_at, .func (PySem.W.fnOf "_law_cell_at" "_law_cell_at" (defArgs s__law_cell_at) (defBody s__law_cell_at) (defScope s__law_cell_at) (.none) kV__law_cell_at dc__law_cell_at pm__law_cell_at an__law_cell_at cd__law_cell_at ct__law_cell_at), sl__law_cell_at⟩)
    (c__law_cell_at : PySem.W.codeIn K cd__law_cell_at "_law_cell_at" = true)
    (k__law_cell_at : PySem.W.keepIn K (.ref f__law_cell_at) = true)
    (a__law_name : PySem.W.nsIn K mainGlobals "_law_name" = some (some (.ref f__law_name)))
    (l__law_name : K.lookup f__law_name = some ⟨oc__law_name, od__law_name, .func (PySem.W.fnOf "_law_name" "_law_name" (defArgs s__law_name) (defBody s__law_name) (defScope s__law_name) (.none) kV__law_name dc__law_name pm__law_name an__law_name cd__law_name ct__law_name), sl__law_name⟩)
    (c__law_name : PySem.W.codeIn K cd__law_name "_law_name" = true)
    (k__law_name : PySem.W.keepIn K (.ref f__law_name) = true)
    (a__law_named : PySem.W.nsIn K mainGlobals "_law_named" = some (some (.ref f__law_named)))
    (l__law_named : K.lookup f__law_named = some ⟨oc__law_named, od__law_named, .func (PySem.W.fnOf "_law_named" "_law_named" (defArgs s__law_named) (defBody s__law_named) (defScope s__law_named) (.none) kV__law_named dc__law_named pm__law_named an__law_named cd__law_named ct__law_named), sl__law_named⟩)
    (c__law_named : PySem.W.codeIn K cd__law_named "_law_named" = true)
    (k__law_named : PySem.W.keepIn K (.ref f__law_named) = true)
    (a__law_truth_is : PySem.W.nsIn K mainGlobals "_law_truth_is" = some (some (.ref f__law_truth_is)))
    (l__law_truth_is : K.lookup f__law_truth_is = some ⟨oc__law_truth_is, od__law_truth_is, .func (PySem.W.fnOf "_law_truth_is" "_law_truth_is" (defArgs s__law_truth_is) (defBody s__law_truth_is) (defScope s__law_truth_is) (.none) kV__law_truth_is dc__law_truth_is pm__law_truth_is an__law_truth_is cd__law_truth_is ct__law_truth_is), sl__law_truth_is⟩)
    (c__law_truth_is : PySem.W.codeIn K cd__law_truth_is "_law_truth_is" = true)
    (k__law_truth_is : PySem.W.keepIn K (.ref f__law_truth_is) = true)
    (a__law_stands : PySem.W.nsIn K mainGlobals "_law_stands" = some (some (.ref f__law_stands)))
    (l__law_stands : K.lookup f__law_stands = some ⟨oc__law_stands, od__law_stands, .func (PySem.W.fnOf "_law_stands" "_law_stands" (defArgs s__law_stands) (defBody s__law_stands) (defScope s__law_stands) (.none) kV__law_stands dc__law_stands pm__law_stands an__law_stands cd__law_stands ct__law_stands), sl__law_stands⟩)
    (c__law_stands : PySem.W.codeIn K cd__law_stands "_law_stands" = true)
    (k__law_stands : PySem.W.keepIn K (.ref f__law_stands) = true)
    (a_law : PySem.W.nsIn K mainGlobals "law" = some (some (.ref f_law)))
    (l_law : K.lookup f_law = some ⟨oc_law, od_law, .func (PySem.W.fnOf "law" "law" (defArgs s_law) (defBody s_law) (defScope s_law) (.none) kV_law dc_law pm_law an_law cd_law ct_law), sl_law⟩)
    (c_law : PySem.W.codeIn K cd_law "law" = true)
    (k_law : PySem.W.keepIn K (.ref f_law) = true)
    (pg_Groups : PySem.W.plainGet K C_Groups Str.empty = true)
    (hd_Groups : PySem.W.hasDictIn K C_Groups = true)
    (po_Groups : PySem.W.plainOver K C_Groups = true)
    (sa_Groups : PySem.W.findIn K (.ref C_Groups) "__setattr__" = some (some (.builtin "object.__setattr__")))
    (na_Groups_above_of : PySem.W.findIn K (.ref C_Groups) "above_of" = some none)
    (na_Groups_marks : PySem.W.findIn K (.ref C_Groups) "marks" = some none)
    (mk_Groups : PySem.W.makesIn K C_Groups = true)
    (kc_Groups : PySem.W.keepIn K (.ref C_Groups) = true)
    (t1_Groups : PySem.W.findIn K (.ref C_Groups) "__class__" = some (some (.builtin "object.__class__")))
    (t2_Groups : PySem.W.mroIn K C_Groups (.type "object") = some true)
    (t3_Groups : PySem.W.typeIn K (.ref C_Groups) = some (.type "type"))
    (aG_MOST_DEPTH : PySem.W.nsIn K mainGlobals "MOST_DEPTH" = some (some (.int 8 tkG_MOST_DEPTH)))
    (no_any : PySem.W.nsIn K mainGlobals "any" = some none)
    (no_bool : PySem.W.nsIn K mainGlobals "bool" = some none)
    (no_isinstance : PySem.W.nsIn K mainGlobals "isinstance" = some none)
    (no_len : PySem.W.nsIn K mainGlobals "len" = some none)
    (no_list : PySem.W.nsIn K mainGlobals "list" = some none)
    (no_sorted : PySem.W.nsIn K mainGlobals "sorted" = some none)
    : ∃ a : Ad, a.f_law = a.f_law ∧ Txt K mg a :=
  ⟨⟨f_Groups___init__, _, f_Groups_add, _, dT_Groups_add, f_Groups_sleep, _, f_Groups_wake, _, f_Groups_awake, _, f_Groups_marked, _, f_Groups_chain, _, f_Groups_within, _, f_Groups_check_stands, _, f_Groups_depth_of, _, f_Groups_awake_within, _, f_Groups_unmark, _, f__law_cell_at, _, f__law_name, _, f__law_named, _, f__law_truth_is, _, f__law_stands, _, f_law, _, C_Groups, tkG_MOST_DEPTH⟩, rfl, {
    F_Groups___init__ := funD_mk l_Groups___init__ c_Groups___init__,
    kp_Groups___init__ := k_Groups___init__,
    F_Groups_add := funD_mk l_Groups_add c_Groups_add,
    kp_Groups_add := k_Groups_add,
    D_Groups_add := ⟨⟨_, _, t_Groups_add, rfl⟩⟩,
    F_Groups_sleep := funD_mk l_Groups_sleep c_Groups_sleep,
    kp_Groups_sleep := k_Groups_sleep,
    F_Groups_wake := funD_mk l_Groups_wake c_Groups_wake,
    kp_Groups_wake := k_Groups_wake,
    F_Groups_awake := funD_mk l_Groups_awake c_Groups_awake,
    kp_Groups_awake := k_Groups_awake,
    F_Groups_marked := funD_mk l_Groups_marked c_Groups_marked,
    kp_Groups_marked := k_Groups_marked,
    F_Groups_chain := funD_mk l_Groups_chain c_Groups_chain,
    kp_Groups_chain := k_Groups_chain,
    F_Groups_within := funD_mk l_Groups_within c_Groups_within,
    kp_Groups_within := k_Groups_within,
    F_Groups_check_stands := funD_mk l_Groups_check_stands c_Groups_check_stands,
    kp_Groups_check_stands := k_Groups_check_stands,
    F_Groups_depth_of := funD_mk l_Groups_depth_of c_Groups_depth_of,
    kp_Groups_depth_of := k_Groups_depth_of,
    F_Groups_awake_within := funD_mk l_Groups_awake_within c_Groups_awake_within,
    kp_Groups_awake_within := k_Groups_awake_within,
    F_Groups_unmark := funD_mk l_Groups_unmark c_Groups_unmark,
    kp_Groups_unmark := k_Groups_unmark,
    F__law_cell_at := funD_mk l__law_cell_at c__law_cell_at,
    kp__law_cell_at := k__law_cell_at,
    mg__law_cell_at := PySem.W.mg_of X G a__law_cell_at,
    F__law_name := funD_mk l__law_name c__law_name,
    kp__law_name := k__law_name,
    mg__law_name := PySem.W.mg_of X G a__law_name,
    F__law_named := funD_mk l__law_named c__law_named,
    kp__law_named := k__law_named,
    mg__law_named := PySem.W.mg_of X G a__law_named,
    F__law_truth_is := funD_mk l__law_truth_is c__law_truth_is,
    kp__law_truth_is := k__law_truth_is,
    mg__law_truth_is := PySem.W.mg_of X G a__law_truth_is,
    F__law_stands := funD_mk l__law_stands c__law_stands,
    kp__law_stands := k__law_stands,
    mg__law_stands := PySem.W.mg_of X G a__law_stands,
    F_law := funD_mk l_law c_law,
    kp_law := k_law,
    mg_law := PySem.W.mg_of X G a_law,
    mg_Groups := PySem.W.mg_of X G aC_Groups,
    cl_Groups := ⟨pg_Groups, hd_Groups, po_Groups, sa_Groups⟩,
    na_Groups_above_of := na_Groups_above_of,
    na_Groups_marks := na_Groups_marks,
    M_Groups := ⟨mk_Groups, a_Groups___init__, i_Groups___init__, kc_Groups⟩,
    m_Groups_add := ⟨a_Groups_add, i_Groups_add, k_Groups_add⟩,
    m_Groups_sleep := ⟨a_Groups_sleep, i_Groups_sleep, k_Groups_sleep⟩,
    m_Groups_wake := ⟨a_Groups_wake, i_Groups_wake, k_Groups_wake⟩,
    m_Groups_awake := ⟨a_Groups_awake, i_Groups_awake, k_Groups_awake⟩,
    m_Groups_marked := ⟨a_Groups_marked, i_Groups_marked, k_Groups_marked⟩,
    m_Groups_chain := ⟨a_Groups_chain, i_Groups_chain, k_Groups_chain⟩,
    m_Groups_within := ⟨a_Groups_within, i_Groups_within, k_Groups_within⟩,
    m_Groups_check_stands := ⟨a_Groups_check_stands, i_Groups_check_stands, k_Groups_check_stands⟩,
    m_Groups_depth_of := ⟨a_Groups_depth_of, i_Groups_depth_of, k_Groups_depth_of⟩,
    m_Groups_awake_within := ⟨a_Groups_awake_within, i_Groups_awake_within, k_Groups_awake_within⟩,
    m_Groups_unmark := ⟨a_Groups_unmark, i_Groups_unmark, k_Groups_unmark⟩,
    ty_Groups := ⟨t1_Groups, hgg, htt, t2_Groups⟩,
    mg_MOST_DEPTH := PySem.W.mg_of X G aG_MOST_DEPTH,
    no_any := PySem.W.mg_none_of X G no_any,
    no_bool := PySem.W.mg_none_of X G no_bool,
    no_isinstance := PySem.W.mg_none_of X G no_isinstance,
    no_len := PySem.W.mg_none_of X G no_len,
    no_list := PySem.W.mg_none_of X G no_list,
    no_sorted := PySem.W.mg_none_of X G no_sorted
  }⟩
inductive Chain (m : List (Str × PyData)) : Str → List Str → Prop
  | top {n : Str} : lkp m n = some .none → Chain m n [n]
  | up {n b : Str} {c : List Str} : lkp m n = some (.str b) → Chain m b c → Chain m n (n :: c)
theorem Chain.has {m : List (Str × PyData)} {n : Str} {c : List Str} (h : Chain m n c) : (lkp m n).isSome = true := by
  cases h with
  | top e => rw [e]; rfl
  | up e _ => rw [e]; rfl
theorem Chain.all {m : List (Str × PyData)} {n : Str} {c : List Str} (h : Chain m n c) : ∀ o ∈ c, (lkp m o).isSome = true := by
  induction h with
  | top e =>
    intro o ho
    rw [List.mem_singleton.mp ho, e]; rfl
  | up e _ ih =>
    intro o ho
    rcases List.mem_cons.mp ho with rfl | ho
    · rw [e]; rfl
    · exact ih o ho
theorem Chain.inj {m : List (Str × PyData)} {n : Str} {c d : List Str} (h : Chain m n c) (k : Chain m n d) : c = d := by
  induction h generalizing d with
  | top e =>
    cases k with
    | top _ => rfl
    | up e2 _ => rw [e] at e2; cases e2
  | up e _ ih =>
    cases k with
    | top e2 => rw [e] at e2; cases e2
    | up e2 k2 =>
      rw [e] at e2
      cases e2
      rw [ih k2]
def gf (d1 d2 : Addr) : List (Str × V) := [("above_of", .ref d1), ("marks", .ref d2)]
structure GRd (C : Addr) (H : Hp) (v : V) (d1 d2 : Addr) (m ms : List (Str × PyData)) : Prop where
  ins : Ins H v C [("above_of", .ref d1), ("marks", .ref d2)]
  ab : DRd H d1 m
  mks : DRd H d2 ms
theorem GRd.keeps {C : Addr} {H H' : Hp} {v : V} {d1 d2 : Addr} {m ms : List (Str × PyData)} (s : Same H H') (h : GRd C H v d1 d2 m ms) : GRd C H' v d1 d2 m ms := ⟨h.ins.keeps s, h.ab.keeps s, h.mks.keeps s⟩
local macro_rules | `(tactic| walk_at "grd") => `(tactic| first
  | assumption
  | (refine' GRd.keeps ?s ?m; (case s => assumption); (case m => walk_at "grd"))
  | fail)
local macro_rules | `(tactic| walk_at "drd") => `(tactic| first
  | assumption
  | (refine' DRd.keeps ?s ?m; (case s => assumption); (case m => walk_at "drd"))
  | (refine' DAt.rd ?m; (case m => walk_at "dla"))
  | fail)
local macro_rules | `(tactic| walk_at "rd1") => `(tactic| first
  | ((with_reducible refine' r_dinR ?e1 (fun _ _ => ?_)); (case e1 => walk_at "drd"))
  | ((with_reducible refine' r_dgetR ?e1 ?e2 ?_); (case e1 => walk_at "drd"); (case e2 => assumption))
  | fail)
section
variable {P : Program} {w : World} {K : PySem.W.Frag} {mg : Str → Option Value} {base : Heap} {a : Ad}
def sp_stands (C : Addr) : Sp := fun vs H Q _ => ∃ v d1 d2 m ms n, vs = [v, .str n] ∧ GRd C H v d1 d2 m ms ∧ (lkp m n).isSome = true ∧ Q .non H
theorem u_stands {C : Addr} {H : Hp} {Q : VK} {E : XK} {v : V} {d1 d2 : Addr} {m ms : List (Str × PyData)} {n : Str} (h : GRd C H v d1 d2 m ms) (hn : (lkp m n).isSome = true) (q : Q .non H) : sp_stands C [v, .str n] H Q E := ⟨v, d1, d2, m, ms, n, rfl, h, hn, q⟩
theorem ok_stands (T : Txt K mg a) : FnOk P w K mg base CX0 1 a.f_Groups_check_stands a.fd_Groups_check_stands ["self", "name"] (sp_stands a.C_Groups) := by
  have n1 := T.na_Groups_above_of; have n2 := T.na_Groups_marks; have cl := T.cl_Groups
  refine T.F_Groups_check_stands.ok sc_Groups_check_stands (fun vs H Q E h => ?_) (fun cdv A outer s H vs Q E hr h => ?_)
  · obtain ⟨_, _, _, _, _, _, rfl, _⟩ := h; rfl
  · obtain ⟨v, d1, d2, m, ms, n, rfl, hg, hn, q⟩ := h
    have hi := hg.ins; have ha := hg.ab
    refine ⟨_, (pss_one (ps_if (pt_cmp (pc_dnotin (hu_of hr) (pv 1) (pe_fld (pv 0) rfl)) rfl)
        (pss_one ps_never)
        pss_nil)), ?_⟩
    repeat' (walk_at "rd1")
    · rename_i o e hb
      rw [e, hn] at hb
      cases hb
    · exact q
theorem cal_stands (T : Txt K mg a) : Cal P w K mg base 1 a.f_Groups_check_stands ["self", "name"] [] (sp_stands a.C_Groups) :=
  ⟨⟨_, _, ok_stands T, T.F_Groups_check_stands.binds fun _ _ _ _ _ _ => .all fun us hl => match us, hl with | [_, _], _ => rfl, .nil⟩⟩
def sp_chain (C : Addr) : Sp := fun vs H Q _ => ∃ v d1 d2 m ms n c, vs = [v, .str n] ∧ GRd C H v d1 d2 m ms ∧ Chain m n c ∧ c.length ≤ 60 ∧ ∀ q H', Same H H' → H q = none → LAt H' q (c.map PyData.str) → Q (.ref q) H'
theorem u_chain {C : Addr} {H : Hp} {Q : VK} {E : XK} {v : V} {d1 d2 : Addr} {m ms : List (Str × PyData)} {n : Str} {c : List Str} (h : GRd C H v d1 d2 m ms) (hc : Chain m n c) (hl : c.length ≤ 60) (q : ∀ q H', Same H H' → H q = none → LAt H' q (c.map PyData.str) → Q (.ref q) H') : sp_chain C [v, .str n] H Q E := ⟨v, d1, d2, m, ms, n, c, rfl, h, hc, hl, q⟩
local macro_rules | `(tactic| walk_at "use") => `(tactic| first
  | ((with_reducible refine' u_stands ?e1 ?e2 ?_); (case e1 => walk_at "grd"); (case e2 => first | assumption | exact Chain.has (by assumption)))
  | ((with_reducible refine' u_chain ?e1 ?e2 ?e3 (fun _ _ _ _ _ => ?_)); (case e1 => walk_at "grd"); (case e2 => assumption); (case e3 => assumption))
  | fail)
theorem ok_chain (T : Txt K mg a) : FnOk P w K mg base CX0 2 a.f_Groups_chain a.fd_Groups_chain ["self", "name"] (sp_chain a.C_Groups) := by
  have n1 := T.na_Groups_above_of; have n2 := T.na_Groups_marks; have cl := T.cl_Groups
  have m_check_stands := T.m_Groups_check_stands
  have c_check_stands := cal_stands (P := P) (w := w) (base := base) T
  refine T.F_Groups_chain.ok sc_Groups_chain (fun vs H Q E h => ?_) (fun cdv A outer s H vs Q E hr h => ?_)
  · obtain ⟨_, _, _, _, _, _, _, rfl, _⟩ := h; rfl
  · obtain ⟨v, d1, d2, m, ms, n, c, rfl, hg, hc, hcl, q⟩ := h
    have hi := hg.ins; have ha := hg.ab
    refine ⟨_, (pss_cut (ps_expr (pn_meth (pv 0) cl m_check_stands c_check_stands (hr.mono (by decide)) (pa_cons (pv 1) pa_nil)))
      (pss_cut (ps_set (i := 2) sc_Groups_chain.nd rfl (Or.inl rfl) (pe_lstD pa_nil))
      (pss_cut (ps_while PassesOwn.never (pt_cmpR op_notN (pv 1) pe_non (nomark _))
        (pss_cut (ps_expr (pe_bm PySem.F.plainAttrs_list PySem.F.slot_list_append PySem.F.type_list_append mt_append (pv 2) (pa_cons (pv 1) pa_nil)))
        (pss_one (ps_set (i := 1) sc_Groups_chain.nd rfl (Or.inl rfl) (pe_dget (hu_of hr) (pe_fld (pv 0) rfl) (pv 1) (fun _ _ => rfl))))))
      (pss_one (ps_ret (pv 2)))))), ?_⟩
    repeat' (walk_at "rd1")
    rename_i p H1 sm1 hn1 hp1
    refine r_while (fun r σ' H' => ∃ (acc rest : List Str) (x : V), σ' = [some v, some x, some (.ref p)] ∧ Same H H' ∧ LAt H' p (acc.map PyData.str) ∧ acc ++ rest = c ∧ r = rest.length ∧ ((x = .non ∧ rest = []) ∨ ∃ n, x = .str n ∧ Chain m n rest)) ⟨_, [], c, _, rfl, sm1, hp1, rfl, rfl, .inr ⟨n, rfl, hc⟩⟩ ?_
    rintro r σ' H' ⟨acc, rest, x, rfl, sm', hp', hcc, rfl, hx⟩
    have hi' := hi.keeps sm'
    have ha' := ha.keeps sm'
    have hal : acc.length ≤ 60 := by rw [← hcc, List.length_append] at hcl; omega
    rcases hx with ⟨rfl, rfl⟩ | ⟨n', rfl, hc'⟩
    · repeat' (walk_at "rd1")
      rw [List.append_nil] at hcc
      subst hcc
      exact q _ _ sm' hn1 hp'
    · cases hc' with
      | top e =>
        repeat' (walk_at "rd1")
        rename_i hb H3 mv3 hp3
        have sm3 : Same H H3 := by walk_at "same"
        have hi3 := hi.keeps sm3
        have ha3 := ha.keeps sm3
        repeat' (walk_at "rd1")
        exact ⟨0, Nat.zero_lt_one, acc ++ [n'], [], .non, rfl, sm3, by rw [List.map_append]; exact hp3, by rw [List.append_nil]; exact hcc, rfl, .inl ⟨rfl, rfl⟩⟩
      | @up _ b c2 e hc2 =>
        repeat' (walk_at "rd1")
        rename_i hb H3 mv3 hp3
        have sm3 : Same H H3 := by walk_at "same"
        have hi3 := hi.keeps sm3
        have ha3 := ha.keeps sm3
        repeat' (walk_at "rd1")
        exact ⟨c2.length, Nat.lt_succ_self _, acc ++ [n'], c2, .str b, rfl, sm3, by rw [List.map_append]; exact hp3, by rw [List.append_assoc]; exact hcc, rfl, .inr ⟨b, rfl, hc2⟩⟩
theorem cal_chain (T : Txt K mg a) : Cal P w K mg base 2 a.f_Groups_chain ["self", "name"] [] (sp_chain a.C_Groups) :=
  ⟨⟨_, _, ok_chain T, T.F_Groups_chain.binds fun _ _ _ _ _ _ => .all fun us hl => match us, hl with | [_, _], _ => rfl, .nil⟩⟩
def mkd (ms : List (Str × PyData)) (n : Str) : Bool := (lkp ms n).isSome
def sp_marked (C : Addr) : Sp := fun vs H Q _ => ∃ v d1 d2 m ms n, vs = [v, .str n] ∧ GRd C H v d1 d2 m ms ∧ (lkp m n).isSome = true ∧ Q (.bl (mkd ms n)) H
theorem u_marked {C : Addr} {H : Hp} {Q : VK} {E : XK} {v : V} {d1 d2 : Addr} {m ms : List (Str × PyData)} {n : Str} (h : GRd C H v d1 d2 m ms) (hn : (lkp m n).isSome = true) (q : Q (.bl (mkd ms n)) H) : sp_marked C [v, .str n] H Q E := ⟨v, d1, d2, m, ms, n, rfl, h, hn, q⟩
theorem ok_marked (T : Txt K mg a) : FnOk P w K mg base CX0 2 a.f_Groups_marked a.fd_Groups_marked ["self", "name"] (sp_marked a.C_Groups) := by
  have n1 := T.na_Groups_above_of; have n2 := T.na_Groups_marks; have cl := T.cl_Groups
  have m_check_stands := T.m_Groups_check_stands
  have c_check_stands := cal_stands (P := P) (w := w) (base := base) T
  refine T.F_Groups_marked.ok sc_Groups_marked (fun vs H Q E h => ?_) (fun cdv A outer s H vs Q E hr h => ?_)
  · obtain ⟨_, _, _, _, _, _, rfl, _⟩ := h; rfl
  · obtain ⟨v, d1, d2, m, ms, n, rfl, hg, hn, q⟩ := h
    have hi := hg.ins; have ha := hg.mks
    refine ⟨_, (pss_cut (ps_expr (pn_meth (pv 0) cl m_check_stands c_check_stands (hr.mono (by decide)) (pa_cons (pv 1) pa_nil)))
      (pss_one (ps_ret (pe_cmp (pc_din (hu_of hr) (pv 1) (pe_fld (pv 0) rfl)) rfl)))), ?_⟩
    repeat' (walk_at "rd1")
    rename_i o e
    have e' : o.isSome = mkd ms n := e
    rw [e']
    exact q
theorem cal_marked (T : Txt K mg a) : Cal P w K mg base 2 a.f_Groups_marked ["self", "name"] [] (sp_marked a.C_Groups) :=
  ⟨⟨_, _, ok_marked T, T.F_Groups_marked.binds fun _ _ _ _ _ _ => .all fun us hl => match us, hl with | [_, _], _ => rfl, .nil⟩⟩
def sp_depth (C : Addr) : Sp := fun vs H Q _ => ∃ v d1 d2 m ms n c, vs = [v, .str n] ∧ GRd C H v d1 d2 m ms ∧ Chain m n c ∧ c.length ≤ 60 ∧ ∀ H', Same H H' → Q (.int (c.length : Nat)) H'
theorem u_depth {C : Addr} {H : Hp} {Q : VK} {E : XK} {v : V} {d1 d2 : Addr} {m ms : List (Str × PyData)} {n : Str} {c : List Str} (h : GRd C H v d1 d2 m ms) (hc : Chain m n c) (hl : c.length ≤ 60) (q : ∀ H', Same H H' → Q (.int (c.length : Nat)) H') : sp_depth C [v, .str n] H Q E := ⟨v, d1, d2, m, ms, n, c, rfl, h, hc, hl, q⟩
theorem ok_depth (T : Txt K mg a) : FnOk P w K mg base CX0 3 a.f_Groups_depth_of a.fd_Groups_depth_of ["self", "name"] (sp_depth a.C_Groups) := by
  have cl := T.cl_Groups
  have m_chain := T.m_Groups_chain
  have c_chain := cal_chain (P := P) (w := w) (base := base) T
  refine T.F_Groups_depth_of.ok sc_Groups_depth_of (fun vs H Q E h => ?_) (fun cdv A outer s H vs Q E hr h => ?_)
  · obtain ⟨_, _, _, _, _, _, _, rfl, _⟩ := h; rfl
  · obtain ⟨v, d1, d2, m, ms, n, c, rfl, hg, hc, hcl, q⟩ := h
    have hi := hg.ins
    refine ⟨_, (pss_one (ps_ret (pe_callB call_lenK rfl T.no_len PySem.boot_len (pa_cons (pn_meth (pv 0) cl m_chain c_chain (hr.mono (by decide)) (pa_cons (pv 1) pa_nil)) pa_nil)))), ?_⟩
    repeat' (walk_at "rd1")
    exact q _ (by walk_at "same")
theorem cal_depth (T : Txt K mg a) : Cal P w K mg base 3 a.f_Groups_depth_of ["self", "name"] [] (sp_depth a.C_Groups) :=
  ⟨⟨_, _, ok_depth T, T.F_Groups_depth_of.binds fun _ _ _ _ _ _ => .all fun us hl => match us, hl with | [_, _], _ => rfl, .nil⟩⟩
def chF : Nat → List (Str × PyData) → Str → List Str
  | 0, _, n => [n]
  | f + 1, m, n => match lkp m n with
    | some (.str b) => n :: chF f m b
    | _ => [n]
theorem Chain.fn {m : List (Str × PyData)} {n : Str} {c : List Str} (h : Chain m n c) : ∀ {f : Nat}, c.length ≤ f → chF f m n = c := by
  induction h with
  | top e =>
    intro f hf
    cases f with
    | zero => rfl
    | succ f => simp [chF, e]
  | up e _ ih =>
    intro f hf
    cases f with
    | zero => simp at hf
    | succ f => simp only [chF, e]; rw [ih (by simpa using hf)]
def slp (m ms : List (Str × PyData)) (n : Str) : Bool := (chF 60 m n).any (mkd ms)
def sp_awake (C : Addr) : Sp := fun vs H Q _ => ∃ v d1 d2 m ms n c, vs = [v, .str n] ∧ GRd C H v d1 d2 m ms ∧ Chain m n c ∧ c.length ≤ 60 ∧ ∀ H', Same H H' → Q (.bl (!slp m ms n)) H'
theorem u_awake {C : Addr} {H : Hp} {Q : VK} {E : XK} {v : V} {d1 d2 : Addr} {m ms : List (Str × PyData)} {n : Str} {c : List Str} (h : GRd C H v d1 d2 m ms) (hc : Chain m n c) (hl : c.length ≤ 60) (q : ∀ H', Same H H' → Q (.bl (!slp m ms n)) H') : sp_awake C [v, .str n] H Q E := ⟨v, d1, d2, m, ms, n, c, rfl, h, hc, hl, q⟩
local macro_rules | `(tactic| walk_at "use") => `(tactic| first
  | ((with_reducible refine' u_marked ?e1 ?e2 ?_); (case e1 => walk_at "grd"); (case e2 => assumption))
  | ((with_reducible refine' u_depth ?e1 ?e2 ?e3 (fun _ _ => ?_)); (case e1 => walk_at "grd"); (case e2 => assumption); (case e3 => assumption))
  | ((with_reducible refine' u_awake ?e1 ?e2 ?e3 (fun _ _ => ?_)); (case e1 => walk_at "grd"); (case e2 => assumption); (case e3 => assumption))
  | fail)
theorem ok_awake (T : Txt K mg a) : FnOk P w K mg base CX0 4 a.f_Groups_awake a.fd_Groups_awake ["self", "name"] (sp_awake a.C_Groups) := by
  have cl := T.cl_Groups
  have m_chain := T.m_Groups_chain; have m_marked := T.m_Groups_marked
  have c_chain := cal_chain (P := P) (w := w) (base := base) T
  have c_marked := cal_marked (P := P) (w := w) (base := base) T
  refine T.F_Groups_awake.ok sc_Groups_awake (fun vs H Q E h => ?_) (fun cdv A outer s H vs Q E hr h => ?_)
  · obtain ⟨_, _, _, _, _, _, _, rfl, _⟩ := h; rfl
  · obtain ⟨v, d1, d2, m, ms, n, c, rfl, hg, hc, hcl, q⟩ := h
    have hi := hg.ins
    refine ⟨_, (pss_one (ps_ret (pe_not (pe_callB (call_anyB rfl) rfl T.no_any PyProof.Rows.boot_any (pa_cons (pe_lc (T := ["other"]) (M := ["self", "name"]) (lcn (defScope s_Groups_awake) ["self", "name"] rfl rfl (by decide +kernel)) rfl (pi_list (pn_meth (pv 0) cl m_chain c_chain (hr.mono (by decide)) (pa_cons (pv 1) pa_nil))) (fun _ _ _ _ _ => (pg_name (i := 0) (show List.Nodup (["other", "self", "name"] : List Str) by decide +kernel) rfl (Or.inl rfl))) (gown_name (by decide)) (fun _ _ _ _ _ => pif_nil) (fun _ _ _ _ _ => (pn_meth (pv 1) cl m_marked c_marked (hr.mono (by decide)) (pa_cons (pv 0) pa_nil)))) pa_nil))))), ?_⟩
    repeat' (walk_at "rd1")
    rename_i p1 H1 sm1 hn1 hp1
    refine r_lc (cs := c) (gd := PyData.str) (fun _ => true) (fun o => .bool (mkd ms o)) hp1.dv (by omega) (fun _ => rfl) (fun x o H' N ho sm' hd' yes no => ?_) (fun pq H5 sm5 hn5 hap => ?_)
    · obtain rfl := hd'.str_inv
      have hst := hc.all o ho
      have hg' := (hg.keeps sm1).keeps sm'
      have hi' := hg'.ins
      repeat' (walk_at "rd1")
      show LCT _ N _ true _
      refine r_lct (fun _ => ?_) (fun hb => by cases hb)
      repeat' (walk_at "rd1")
      exact yes rfl _ _ (Same.refl _) (.bl _)
    · have e : c.filter (fun _ => true) = c := List.filter_eq_self.mpr (by simp)
      rw [e] at hap
      have hap' : LAt H5 pq ((c.map (mkd ms)).map PyData.bool) := by rw [List.map_map]; exact hap
      repeat' (walk_at "rd1")
      have e2 : (c.map (mkd ms)).any id = slp m ms n := by unfold slp; rw [hc.fn hcl, List.any_map]; rfl
      rw [e2]
      exact q _ (by walk_at "same")
theorem cal_awake (T : Txt K mg a) : Cal P w K mg base 4 a.f_Groups_awake ["self", "name"] [] (sp_awake a.C_Groups) :=
  ⟨⟨_, _, ok_awake T, T.F_Groups_awake.binds fun _ _ _ _ _ _ => .all fun us hl => match us, hl with | [_, _], _ => rfl, .nil⟩⟩
structure GAt (C : Addr) (H : Hp) (v : V) (d1 d2 : Addr) (m ms : List (Str × PyData)) : Prop where
  ins : Ins H v C [("above_of", .ref d1), ("marks", .ref d2)]
  ab : DAt H d1 m
  mks : DAt H d2 ms
  ne : d1 ≠ d2
theorem GAt.rd {C : Addr} {H : Hp} {v : V} {d1 d2 : Addr} {m ms : List (Str × PyData)} (h : GAt C H v d1 d2 m ms) : GRd C H v d1 d2 m ms := ⟨h.ins, h.ab.rd, h.mks.rd⟩
theorem GAt.keeps {C : Addr} {H H' : Hp} {v : V} {d1 d2 : Addr} {m ms : List (Str × PyData)} (s : Same H H') (h : GAt C H v d1 d2 m ms) : GAt C H' v d1 d2 m ms := ⟨h.ins.keeps s, h.ab.keeps s, h.mks.keeps s, h.ne⟩
theorem ins_mvD {C : Addr} {H H' : Hp} {v : V} {fs : List (Str × V)} {d : Addr} {m : List (Str × PyData)} (h : Ins H v C fs) (hd : DAt H d m) (mv : Mv [d] H H') : Ins H' v C fs := by
  obtain ⟨p, dx, rfl, e⟩ := h
  obtain ⟨kvs, e2, _⟩ := hd
  exact ⟨p, dx, rfl, mv.at (by simpa using ne_of e e2 (by intro z; cases z)) e⟩
structure MOkG (m : List (Str × PyData)) : Prop where
  ch : ∀ n, (lkp m n).isSome = true → ∃ c, Chain m n c ∧ c.length ≤ 60
  nd : (m.map (·.1)).Nodup
  len : m.length ≤ 60
theorem lkp_some {m : List (Str × PyData)} {n : Str} (h : n ∈ m.map (·.1)) : (lkp m n).isSome = true := by
  unfold lkp
  rw [Option.isSome_map, List.find?_isSome]
  obtain ⟨x, hx, e⟩ := List.mem_map.mp h
  exact ⟨x, hx, by simpa using e⟩
def wNames (m : List (Str × PyData)) (n : Str) : List Str := (m.map (·.1)).filter fun k => (chF 60 m k).contains n
def sp_within (C : Addr) : Sp := fun vs H Q _ => ∃ v d1 d2 m ms n, vs = [v, .str n] ∧ GAt C H v d1 d2 m ms ∧ MOkG m ∧ (lkp m n).isSome = true ∧ ∀ q H' ss, Same H H' → H q = none → ss.Perm (wNames m n) → UpS ss → LAt H' q (ss.map PyData.str) → Q (.ref q) H'
theorem u_within {C : Addr} {H : Hp} {Q : VK} {E : XK} {v : V} {d1 d2 : Addr} {m ms : List (Str × PyData)} {n : Str} (h : GAt C H v d1 d2 m ms) (hm : MOkG m) (hn : (lkp m n).isSome = true) (q : ∀ q H' ss, Same H H' → H q = none → ss.Perm (wNames m n) → UpS ss → LAt H' q (ss.map PyData.str) → Q (.ref q) H') : sp_within C [v, .str n] H Q E := ⟨v, d1, d2, m, ms, n, rfl, h, hm, hn, q⟩
theorem ok_within (T : Txt K mg a) : FnOk P w K mg base CX0 4 a.f_Groups_within a.fd_Groups_within ["self", "name"] (sp_within a.C_Groups) := by
  have n1 := T.na_Groups_above_of; have n2 := T.na_Groups_marks; have cl := T.cl_Groups
  have m_chain := T.m_Groups_chain; have m_check_stands := T.m_Groups_check_stands
  have c_chain := cal_chain (P := P) (w := w) (base := base) T
  have c_check_stands := cal_stands (P := P) (w := w) (base := base) T
  refine T.F_Groups_within.ok sc_Groups_within (fun vs H Q E h => ?_) (fun cdv A outer s H vs Q E hr h => ?_)
  · obtain ⟨_, _, _, _, _, _, rfl, _⟩ := h; rfl
  · obtain ⟨v, d1, d2, m, ms, n, rfl, hg, hm, hn, q⟩ := h
    have hi := hg.ins; have hrd := hg.rd
    have hml := hm.len
    refine ⟨_, (pss_cut (ps_expr (pn_meth (pv 0) cl m_check_stands c_check_stands (hr.mono (by decide)) (pa_cons (pv 1) pa_nil)))
      (pss_one (ps_ret (pe_callB call_sortS rfl T.no_sorted PyProof.Rows.boot_sorted (pa_cons (pe_thaw (pe_lc (T := ["other"]) (M := ["self", "name"]) (lcn (defScope s_Groups_within) ["self", "name"] rfl rfl (by decide +kernel)) rfl (pi_dict (pe_fld (pv 0) rfl)) (fun _ _ _ _ _ => (pg_name (i := 0) (show List.Nodup (["other", "self", "name"] : List Str) by decide +kernel) rfl (Or.inl rfl))) (gown_name (by decide)) (fun _ _ _ _ _ => (pif_one (pt_cmpR (op_inK (K := K) rfl) (pv 2) (pn_meth (pv 1) cl m_chain c_chain (hr.mono (by decide)) (pa_cons (pv 0) pa_nil)) rfl))) (fun _ _ _ _ _ => (pv 0)))) pa_nil))))), ?_⟩
    repeat' (walk_at "rd1")
    refine r_lcD hg.ab (fun R hR => ?_) (fun k => (chF 60 m k).contains n) PyData.str (by omega) (fun _ => rfl) (fun o Hf H' N ho mv rd sm yes no => ?_) (fun pq H5 sm5 hn5 hap => ?_)
    · repeat' (walk_at "rd1")
      exact hR
    · obtain ⟨c, hc, hcl⟩ := hm.ch o (lkp_some ho)
      have hi' : Ins H' v a.C_Groups [("above_of", .ref d1), ("marks", .ref d2)] := (ins_mvD hi hg.ab mv).keeps sm
      have hg' : GRd a.C_Groups H' v d1 d2 m ms := ⟨hi', rd.keeps sm, (hg.mks.rd.mv mv (by simpa using Ne.symm hg.ne)).keeps sm⟩
      have hce : chF 60 m o = c := hc.fn hcl
      rw [hce] at yes no
      repeat' (walk_at "rd1")
      rename_i q6 H6 sm6 hn6 hl6
      refine r_lct (fun hb => ?_) (fun hb => no hb _ (by walk_at "same"))
      repeat' (walk_at "rd1")
      exact yes hb _ _ (by walk_at "same") (.str _)
    · have hap' : LAt H5 pq ((wNames m n).map PyData.str) := hap
      have hwl : (wNames m n).length < 64 := by
        have h1 := List.length_filter_le (fun k => (chF 60 m k).contains n) (m.map (·.1))
        rw [List.length_map] at h1
        unfold wNames
        omega
      repeat' (walk_at "rd1")
      rename_i q7 H7 ss sm7 hn7 hpm hup hl7
      exact q _ _ ss (by walk_at "same") (by walk_at "none") hpm hup hl7
theorem cal_within (T : Txt K mg a) : Cal P w K mg base 4 a.f_Groups_within ["self", "name"] [] (sp_within a.C_Groups) :=
  ⟨⟨_, _, ok_within T, T.F_Groups_within.binds fun _ _ _ _ _ _ => .all fun us hl => match us, hl with | [_, _], _ => rfl, .nil⟩⟩
def AwIn (m ms : List (Str × PyData)) (n : Str) (ss : List Str) : Prop := UpS ss ∧ ss.Perm ((wNames m n).filter fun k => !slp m ms k)
def sp_awin (C : Addr) : Sp := fun vs H Q _ => ∃ v d1 d2 m ms n, vs = [v, .str n] ∧ GAt C H v d1 d2 m ms ∧ MOkG m ∧ (lkp m n).isSome = true ∧ ∀ q H' ss, Same H H' → H q = none → AwIn m ms n ss → LAt H' q (ss.map PyData.str) → Q (.ref q) H'
theorem u_awin {C : Addr} {H : Hp} {Q : VK} {E : XK} {v : V} {d1 d2 : Addr} {m ms : List (Str × PyData)} {n : Str} (h : GAt C H v d1 d2 m ms) (hm : MOkG m) (hn : (lkp m n).isSome = true) (q : ∀ q H' ss, Same H H' → H q = none → AwIn m ms n ss → LAt H' q (ss.map PyData.str) → Q (.ref q) H') : sp_awin C [v, .str n] H Q E := ⟨v, d1, d2, m, ms, n, rfl, h, hm, hn, q⟩
local macro_rules | `(tactic| walk_at "gat") => `(tactic| first
  | assumption
  | (refine' GAt.keeps ?s ?m; (case s => assumption); (case m => walk_at "gat"))
  | fail)
local macro_rules | `(tactic| walk_at "use") => `(tactic| first
  | ((with_reducible refine' u_within ?e1 ?e2 ?e3 (fun _ _ _ _ _ _ _ _ => ?_)); (case e1 => walk_at "gat"); (case e2 => assumption); (case e3 => assumption))
  | ((with_reducible refine' u_awin ?e1 ?e2 ?e3 (fun _ _ _ _ _ _ _ => ?_)); (case e1 => walk_at "gat"); (case e2 => assumption); (case e3 => assumption))
  | fail)
theorem ok_awin (T : Txt K mg a) : FnOk P w K mg base CX0 5 a.f_Groups_awake_within a.fd_Groups_awake_within ["self", "name"] (sp_awin a.C_Groups) := by
  have cl := T.cl_Groups
  have m_within := T.m_Groups_within; have m_awake := T.m_Groups_awake
  have c_within := cal_within (P := P) (w := w) (base := base) T
  have c_awake := cal_awake (P := P) (w := w) (base := base) T
  refine T.F_Groups_awake_within.ok sc_Groups_awake_within (fun vs H Q E h => ?_) (fun cdv A outer s H vs Q E hr h => ?_)
  · obtain ⟨_, _, _, _, _, _, rfl, _⟩ := h; rfl
  · obtain ⟨v, d1, d2, m, ms, n, rfl, hg, hm, hn, q⟩ := h
    have hi := hg.ins
    refine ⟨_, (pss_one (ps_ret (pe_lc (T := ["other"]) (M := ["self", "name"]) (lcn (defScope s_Groups_awake_within) ["self", "name"] rfl rfl (by decide +kernel)) rfl (pi_list (pn_meth (pv 0) cl m_within c_within (hr.mono (by decide)) (pa_cons (pv 1) pa_nil))) (fun _ _ _ _ _ => (pg_name (i := 0) (show List.Nodup (["other", "self", "name"] : List Str) by decide +kernel) rfl (Or.inl rfl))) (gown_name (by decide)) (fun _ _ _ _ _ => (pif_one (pt_truthK (K := K) rfl (pn_meth (pv 1) cl m_awake c_awake (hr.mono (by decide)) (pa_cons (pv 0) pa_nil)) (fun _ => rfl)))) (fun _ _ _ _ _ => (pv 0))))), ?_⟩
    repeat' (walk_at "rd1")
    rename_i p1 H1 ss sm1 hn1 hpm hup hp1
    have hsl : ss.length ≤ 60 := by
      rw [hpm.length_eq]
      have h1 := List.length_filter_le (fun k => (chF 60 m k).contains n) (m.map (·.1))
      rw [List.length_map] at h1
      have := hm.len
      unfold wNames
      omega
    refine r_lc (cs := ss) (gd := PyData.str) (fun o => !slp m ms o) PyData.str hp1.dv (by omega) (fun _ => rfl) (fun x o H' N ho sm' hd' yes no => ?_) (fun pq H5 sm5 hn5 hap => ?_)
    · obtain rfl := hd'.str_inv
      have hom : o ∈ m.map (·.1) := (List.mem_filter.mp (hpm.mem_iff.mp ho)).1
      obtain ⟨c, hc, hcl⟩ := hm.ch o (lkp_some hom)
      have hg' := ((hg.keeps sm1).keeps sm').rd
      have hi' := hg'.ins
      repeat' (walk_at "rd1")
      rename_i H6 sm6
      refine r_lct (fun hb => ?_) (fun hb => no hb _ (by walk_at "same"))
      repeat' (walk_at "rd1")
      exact yes hb _ _ (by walk_at "same") (.str _)
    · repeat' (walk_at "rd1")
      exact q _ _ _ (by walk_at "same") (by walk_at "none") ⟨hup.filter _, hpm.filter _⟩ hap
theorem cal_awin (T : Txt K mg a) : Cal P w K mg base 5 a.f_Groups_awake_within ["self", "name"] [] (sp_awin a.C_Groups) :=
  ⟨⟨_, _, ok_awin T, T.F_Groups_awake_within.binds fun _ _ _ _ _ _ => .all fun us hl => match us, hl with | [_, _], _ => rfl, .nil⟩⟩
def sp_sleep (C : Addr) : Sp := fun vs H Q _ => ∃ v d1 d2 m ms n, vs = [v, .str n] ∧ GAt C H v d1 d2 m ms ∧ MOkG m ∧ ms.length ≤ 60 ∧ (lkp m n).isSome = true ∧ ∀ q H' ss, Mv [d2] H H' → H q = none → AwIn m ms n ss → LAt H' q (ss.map PyData.str) → GAt C H' v d1 d2 m (putD ms n (.bool true)) → Q (.ref q) H'
theorem u_sleep {C : Addr} {H : Hp} {Q : VK} {E : XK} {v : V} {d1 d2 : Addr} {m ms : List (Str × PyData)} {n : Str} (h : GAt C H v d1 d2 m ms) (hm : MOkG m) (hl : ms.length ≤ 60) (hn : (lkp m n).isSome = true) (q : ∀ q H' ss, Mv [d2] H H' → H q = none → AwIn m ms n ss → LAt H' q (ss.map PyData.str) → GAt C H' v d1 d2 m (putD ms n (.bool true)) → Q (.ref q) H') : sp_sleep C [v, .str n] H Q E := ⟨v, d1, d2, m, ms, n, rfl, h, hm, hl, hn, q⟩
theorem ok_sleep (T : Txt K mg a) : FnOk P w K mg base CX0 6 a.f_Groups_sleep a.fd_Groups_sleep ["self", "name"] (sp_sleep a.C_Groups) := by
  have n1 := T.na_Groups_above_of; have n2 := T.na_Groups_marks; have cl := T.cl_Groups
  have m_awake_within := T.m_Groups_awake_within
  have c_awake_within := cal_awin (P := P) (w := w) (base := base) T
  refine T.F_Groups_sleep.ok sc_Groups_sleep (fun vs H Q E h => ?_) (fun cdv A outer s H vs Q E hr h => ?_)
  · obtain ⟨_, _, _, _, _, _, rfl, _⟩ := h; rfl
  · obtain ⟨v, d1, d2, m, ms, n, rfl, hg, hm, hl, hn, q⟩ := h
    have hi := hg.ins
    refine ⟨_, (pss_cut (ps_set (i := 2) sc_Groups_sleep.nd rfl (Or.inl rfl) (pn_meth (pv 0) cl m_awake_within c_awake_within (hr.mono (by decide)) (pa_cons (pv 1) pa_nil)))
      (pss_cut (ps_dput (hu_of hr) (pe_fld (pv 0) rfl) (pv 1) pe_bl rfl)
      (pss_one (ps_ret (pv 2))))), ?_⟩
    repeat' (walk_at "rd1")
    rename_i p1 H1 ss sm1 hn1 haw hp1
    have hg1 := hg.keeps sm1
    have hd2 := hg1.mks
    have hi1 := hg1.ins
    repeat' (walk_at "rd1")
    rename_i H2 mv2 hd
    have hne : p1 ≠ d2 := Ne.symm (hg.mks.ne hn1)
    exact q _ _ ss (sm1.mv.trans mv2) hn1 haw (hp1.mv mv2 (by simpa using hne)) ⟨ins_mvD hi1 hd2 mv2, hg1.ab.mv mv2 (by simpa using hg.ne), hd, hg.ne⟩
theorem cal_sleep (T : Txt K mg a) : Cal P w K mg base 6 a.f_Groups_sleep ["self", "name"] [] (sp_sleep a.C_Groups) :=
  ⟨⟨_, _, ok_sleep T, T.F_Groups_sleep.binds fun _ _ _ _ _ _ => .all fun us hl => match us, hl with | [_, _], _ => rfl, .nil⟩⟩
theorem dropD_none {m : List (Str × PyData)} {n : Str} (h : lkp m n = none) : dropD m n = m := by
  unfold dropD
  rw [List.filter_eq_self]
  intro x hx
  unfold lkp at h
  rw [Option.map_eq_none_iff, List.find?_eq_none] at h
  have := h x hx
  simpa using this
def sp_unmark (C : Addr) : Sp := fun vs H Q _ => ∃ v d1 d2 m ms n, vs = [v, .str n] ∧ GAt C H v d1 d2 m ms ∧ ∀ H', Mv [d2] H H' → GAt C H' v d1 d2 m (dropD ms n) → Q .non H'
theorem u_unmark {C : Addr} {H : Hp} {Q : VK} {E : XK} {v : V} {d1 d2 : Addr} {m ms : List (Str × PyData)} {n : Str} (h : GAt C H v d1 d2 m ms) (q : ∀ H', Mv [d2] H H' → GAt C H' v d1 d2 m (dropD ms n) → Q .non H') : sp_unmark C [v, .str n] H Q E := ⟨v, d1, d2, m, ms, n, rfl, h, q⟩
local macro_rules | `(tactic| walk_at "rd1") => `(tactic| first
  | ((with_reducible refine' r_tyD ?e1 ?_); (case e1 => walk_at "dla"))
  | ((with_reducible refine' r_dpop ?e1 ?e2 (fun _ _ _ _ => ?_)); (case e1 => walk_at "dla"); (case e2 => assumption))
  | fail)
theorem ok_unmark (T : Txt K mg a) : FnOk P w K mg base CX0 1 a.f_Groups_unmark a.fd_Groups_unmark ["self", "name"] (sp_unmark a.C_Groups) := by
  have n1 := T.na_Groups_above_of; have n2 := T.na_Groups_marks; have cl := T.cl_Groups
  refine T.F_Groups_unmark.ok sc_Groups_unmark (fun vs H Q E h => ?_) (fun cdv A outer s H vs Q E hr h => ?_)
  · obtain ⟨_, _, _, _, _, _, rfl, _⟩ := h; rfl
  · obtain ⟨v, d1, d2, m, ms, n, rfl, hg, q⟩ := h
    have hi := hg.ins; have hd2 := hg.mks
    refine ⟨_, (pss_one (ps_if (pt_cmp (pc_din (hu_of hr) (pv 1) (pe_fld (pv 0) rfl)) rfl)
        (pss_one (ps_expr (pe_bm PySem.F.plainAttrs_dict PySem.F.slot_dict_pop PySem.F.type_dict_pop mt_dpop (pe_fld (pv 0) rfl) (pa_cons (pv 1) pa_nil))))
        pss_nil)), ?_⟩
    cases hk : lkp ms n with
    | none =>
      repeat' (walk_at "rd1")
      · rename_i o e hb
        rw [e, hk] at hb
        cases hb
      · have z := dropD_none hk
        exact q _ Mv.refl (by rw [z]; exact hg)
    | some d =>
      repeat' (walk_at "rd1")
      · rename_i o e hb v2 H2 mv2 hd
        exact q _ mv2 ⟨ins_mvD hi hd2 mv2, hg.ab.mv mv2 (by simpa using hg.ne), hd, hg.ne⟩
      · rename_i o e hb
        rw [e, hk] at hb
        cases hb
theorem cal_unmark (T : Txt K mg a) : Cal P w K mg base 1 a.f_Groups_unmark ["self", "name"] [] (sp_unmark a.C_Groups) :=
  ⟨⟨_, _, ok_unmark T, T.F_Groups_unmark.binds fun _ _ _ _ _ _ => .all fun us hl => match us, hl with | [_, _], _ => rfl, .nil⟩⟩
def WkOk (m ms : List (Str × PyData)) (n : Str) (ss : List Str) : Prop := ∃ s1 s2, AwIn m ms n s1 ∧ AwIn m (dropD ms n) n s2 ∧ ss = s2.filter fun o => !s1.contains o
def sp_wake (C : Addr) : Sp := fun vs H Q _ => ∃ v d1 d2 m ms n, vs = [v, .str n] ∧ GAt C H v d1 d2 m ms ∧ MOkG m ∧ (lkp m n).isSome = true ∧ ∀ q H' ss, Mv [d2] H H' → H q = none → WkOk m ms n ss → LAt H' q (ss.map PyData.str) → GAt C H' v d1 d2 m (dropD ms n) → Q (.ref q) H'
theorem u_wake {C : Addr} {H : Hp} {Q : VK} {E : XK} {v : V} {d1 d2 : Addr} {m ms : List (Str × PyData)} {n : Str} (h : GAt C H v d1 d2 m ms) (hm : MOkG m) (hn : (lkp m n).isSome = true) (q : ∀ q H' ss, Mv [d2] H H' → H q = none → WkOk m ms n ss → LAt H' q (ss.map PyData.str) → GAt C H' v d1 d2 m (dropD ms n) → Q (.ref q) H') : sp_wake C [v, .str n] H Q E := ⟨v, d1, d2, m, ms, n, rfl, h, hm, hn, q⟩
local macro_rules | `(tactic| walk_at "use") => `(tactic| first
  | ((with_reducible refine' u_unmark ?e1 (fun _ _ _ => ?_)); (case e1 => walk_at "gat"))
  | fail)
theorem AwIn.len {m ms : List (Str × PyData)} {n : Str} {ss : List Str} (h : AwIn m ms n ss) (hm : MOkG m) : ss.length ≤ 60 := by
  rw [h.2.length_eq]
  have h2 := List.length_filter_le (fun k => !slp m ms k) (wNames m n)
  have h1 := List.length_filter_le (fun k => (chF 60 m k).contains n) (m.map (·.1))
  rw [List.length_map] at h1
  have := hm.len
  unfold wNames at *
  omega
theorem ok_wake (T : Txt K mg a) : FnOk P w K mg base CX0 6 a.f_Groups_wake a.fd_Groups_wake ["self", "name"] (sp_wake a.C_Groups) := by
  have cl := T.cl_Groups
  have m_awake_within := T.m_Groups_awake_within; have m_unmark := T.m_Groups_unmark
  have c_awake_within := cal_awin (P := P) (w := w) (base := base) T
  have c_unmark := cal_unmark (P := P) (w := w) (base := base) T
  refine T.F_Groups_wake.ok sc_Groups_wake (fun vs H Q E h => ?_) (fun cdv A outer s H vs Q E hr h => ?_)
  · obtain ⟨_, _, _, _, _, _, rfl, _⟩ := h; rfl
  · obtain ⟨v, d1, d2, m, ms, n, rfl, hg, hm, hn, q⟩ := h
    have hi := hg.ins
    refine ⟨_, (pss_cut (ps_set (i := 2) sc_Groups_wake.nd rfl (Or.inr rfl) (pn_meth (pv 0) cl m_awake_within c_awake_within (hr.mono (by decide)) (pa_cons (pv 1) pa_nil)))
      (pss_cut (ps_expr (pn_meth (pv 0) cl m_unmark c_unmark (hr.mono (by decide)) (pa_cons (pv 1) pa_nil)))
      (pss_one (ps_ret (pe_lc (T := ["other"]) (M := ["self", "name", "ahead"]) (lcn (defScope s_Groups_wake) ["self", "name", "ahead"] rfl rfl (by decide +kernel)) rfl (pi_list (pn_meth (pv 0) cl m_awake_within c_awake_within (hr.mono (by decide)) (pa_cons (pv 1) pa_nil))) (fun _ _ _ _ _ => (pg_name (i := 0) (show List.Nodup (["other", "self", "name", "ahead"] : List Str) by decide +kernel) rfl (Or.inl rfl))) (gown_name (by decide)) (fun _ _ _ _ _ => (pif_one (pt_cmpR (op_ninK (K := K) rfl) (pv 0) (pv 3) rfl))) (fun _ _ _ _ _ => (pv 0))))))), ?_⟩
    repeat' (walk_at "rd1")
    rename_i p1 H1 s1 sm1 hn1 haw1 hp1 H2 mv2 hg2
    have hi2 := hg2.ins
    have hne : p1 ≠ d2 := Ne.symm (hg.mks.ne hn1)
    have hp2 : LAt H2 p1 (s1.map PyData.str) := hp1.mv mv2 (by simpa using hne)
    repeat' (walk_at "rd1")
    rename_i p3 H3 s2 sm3 hn3 haw3 hp3
    have hsl := haw3.len hm
    refine r_lc (cs := s2) (gd := PyData.str) (fun o => !s1.contains o) PyData.str hp3.dv (by omega) (fun _ => rfl) (fun x o H' N ho sm' hd' yes no => ?_) (fun pq H5 sm5 hn5 hap => ?_)
    · obtain rfl := hd'.str_inv
      have hp2' : LAt H' p1 (s1.map PyData.str) := (hp2.keeps sm3).keeps sm'
      repeat' (walk_at "rd1")
      refine r_lct (fun hb => ?_) (fun hb => no hb _ (Same.refl _))
      repeat' (walk_at "rd1")
      exact yes hb _ _ (Same.refl _) (.str _)
    · repeat' (walk_at "rd1")
      exact q _ _ _ (((sm1.mv.trans mv2).trans sm3.mv).trans sm5.mv) (by walk_at "none") ⟨s1, s2, haw1, haw3, rfl⟩ hap ((hg2.keeps sm3).keeps sm5)
theorem cal_wake (T : Txt K mg a) : Cal P w K mg base 6 a.f_Groups_wake ["self", "name"] [] (sp_wake a.C_Groups) :=
  ⟨⟨_, _, ok_wake T, T.F_Groups_wake.binds fun _ _ _ _ _ _ => .all fun us hl => match us, hl with | [_, _], _ => rfl, .nil⟩⟩
theorem putD_new {m : List (Str × PyData)} {k : Str} {d : PyData} (h : lkp m k = none) : putD m k d = m ++ [(k, d)] := by
  unfold putD
  rw [if_neg]
  unfold lkp at h
  rw [Option.map_eq_none_iff, List.find?_eq_none] at h
  simp only [List.any_eq_true, not_exists, not_and]
  exact h
def AbOk (m : List (Str × PyData)) (x : V) (d : PyData) : Prop := (x = .non ∧ d = .none) ∨ ∃ b c, x = .str b ∧ d = .str b ∧ Chain m b c ∧ c.length ≤ 7
def sp_add (C : Addr) : Sp := fun vs H Q _ => ∃ v d1 d2 m ms n x d, vs = [v, .str n, x] ∧ GAt C H v d1 d2 m ms ∧ m.length ≤ 100 ∧ lkp m n = none ∧ AbOk m x d ∧ ∀ H', Mv [d1] H H' → GAt C H' v d1 d2 (m ++ [(n, d)]) ms → Q .non H'
theorem u_add {C : Addr} {H : Hp} {Q : VK} {E : XK} {v x : V} {d1 d2 : Addr} {m ms : List (Str × PyData)} {n : Str} {d : PyData} (h : GAt C H v d1 d2 m ms) (hl : m.length ≤ 100) (hn : lkp m n = none) (ha : AbOk m x d) (q : ∀ H', Mv [d1] H H' → GAt C H' v d1 d2 (m ++ [(n, d)]) ms → Q .non H') : sp_add C [v, .str n, x] H Q E := ⟨v, d1, d2, m, ms, n, x, d, rfl, h, hl, hn, ha, q⟩
theorem ok_add (T : Txt K mg a) : FnOk P w K mg base CX0 4 a.f_Groups_add a.fd_Groups_add ["self", "name", "above"] (sp_add a.C_Groups) := by
  have n1 := T.na_Groups_above_of; have n2 := T.na_Groups_marks; have cl := T.cl_Groups
  have m_check_stands := T.m_Groups_check_stands; have m_depth_of := T.m_Groups_depth_of
  have c_check_stands := cal_stands (P := P) (w := w) (base := base) T
  have c_depth_of := cal_depth (P := P) (w := w) (base := base) T
  refine T.F_Groups_add.ok sc_Groups_add (fun vs H Q E h => ?_) (fun cdv A outer s H vs Q E hr h => ?_)
  · obtain ⟨_, _, _, _, _, _, _, _, rfl, _⟩ := h; rfl
  · obtain ⟨v, d1, d2, m, ms, n, x, d, rfl, hg, hl, hn, ha, q⟩ := h
    have hi := hg.ins; have hd1 := hg.ab; have hrd := hg.rd
    refine ⟨_, (pss_cut (ps_if (pt_cmp (pc_din (hu_of hr) (pv 1) (pe_fld (pv 0) rfl)) rfl)
        (pss_one ps_never)
        pss_nil)
      (pss_cut (ps_if (pt_cmpR op_notN (pv 2) pe_non (nomark _))
        (pss_cut (ps_expr (pn_meth (pv 0) cl m_check_stands c_check_stands (hr.mono (by decide)) (pa_cons (pv 2) pa_nil)))
        (pss_one (ps_if (pt_cmpR op_ge (pn_meth (pv 0) cl m_depth_of c_depth_of (hr.mono (by decide)) (pa_cons (pv 2) pa_nil)) (pe_glob (v := .int 8) rfl T.mg_MOST_DEPTH ⟨_, rfl⟩) (nomark _))
          (pss_one ps_never)
          pss_nil)))
        pss_nil)
      (pss_one (ps_dput (hu_of hr) (pe_fld (pv 0) rfl) (pv 1) (pv 2) rfl)))), ?_⟩
    rcases ha with ⟨rfl, rfl⟩ | ⟨b, c, rfl, rfl, hc, hcl⟩
    · repeat' (walk_at "rd1")
      · rename_i o e hb
        rw [e, hn] at hb
        cases hb
      · rename_i o e hb1 hb2 H2 mv2 hd
        rw [putD_new hn] at hd
        exact q _ mv2 ⟨ins_mvD hi hd1 mv2, hd, hg.mks.mv mv2 (by simpa using Ne.symm hg.ne), hg.ne⟩
    · have hcl2 : c.length ≤ 60 := by omega
      repeat' (walk_at "rd1")
      · rename_i o e hb
        rw [e, hn] at hb
        cases hb
      · rename_i o e hb1 hb2 H4 sm4 hb3 H2 mv2 hd
        have hg4 := hg.keeps sm4
        rw [putD_new hn] at hd
        exact q _ (sm4.mv.trans mv2) ⟨ins_mvD hg4.ins hg4.ab mv2, hd, hg4.mks.mv mv2 (by simpa using Ne.symm hg.ne), hg.ne⟩
theorem cal_add (T : Txt K mg a) : Cal P w K mg base 4 a.f_Groups_add ["self", "name", "above"] [] (sp_add a.C_Groups) :=
  ⟨⟨_, _, ok_add T, T.F_Groups_add.binds fun _ _ _ _ _ _ s us kx hl => by
    obtain ⟨o, n, h1, h2⟩ := T.D_Groups_add.ex
    have hl : us.length = 3 := by simp at hl; omega
    match us, hl with
    | [_, _, _], _ => exact PySem.W.binds_K kx rfl h1 h2 rfl rfl, .nil⟩⟩
theorem pn_make0 {X : Cx} {k : Nat} {f C : Addr} {ps : List Str} {sp : Sp} {dvs : List V} {x : Str} {p pos : Pos} (M : Mk X.K C f) (F : Cal X.prog X.w X.K X.mg X.base k f ps dvs sp) (hr : Room (k + 1) X.A) (hg : Gl X x) (hm : X.mg x = some (.ref C))
    (hdb : (x == ("__debug__" : Str)) = false := by decide) : PE X (.Call (.Name x p) [] [] pos) (tMakeN C sp dvs E0 tNil) := by
  rw [tMakeN_eq]
  obtain ⟨fd, ds, F, hb, hd⟩ := F.ex
  exact pe_make0 M F hr hg hm hb hd pass0 hdb
def sp_ginit (C : Addr) : Sp := fun vs H Q _ => ∃ p dx, vs = [.ref p] ∧ H p = some (.ins C dx []) ∧ ∀ H' d1 d2, Mv [p] H H' → H d1 = none → H d2 = none → GAt C H' (.ref p) d1 d2 [] [] → Q .non H'
theorem ok_ginit (T : Txt K mg a) : FnOk P w K mg base CX0 1 a.f_Groups___init__ a.fd_Groups___init__ ["self"] (sp_ginit a.C_Groups) := by
  have n1 := T.na_Groups_above_of; have n2 := T.na_Groups_marks; have cl := T.cl_Groups
  refine T.F_Groups___init__.ok sc_Groups___init__ (fun vs H Q E h => ?_) (fun cdv A outer s H vs Q E hr h => ?_)
  · obtain ⟨_, _, rfl, _⟩ := h; rfl
  · obtain ⟨p, dx, rfl, hp, q⟩ := h
    refine ⟨_, (pss_cut (ps_fld (pv 0) pe_dnewK rfl)
      (pss_one (ps_fld (pv 0) pe_dnewK rfl))), ?_⟩
    repeat' (walk_at "rd1")
    rename_i d1 H1 sm1 hn1 hd1 d2 H2 sm2 hn2 hd2
    have e1 := sm1 _ _ hp
    have mv1 : Mv [p] H1 (upd H1 p (.ins a.C_Groups dx [("above_of", .ref d1)])) := .of_upd e1 (by intro _ z; cases z)
    have e2 := sm2 p _ upd_same
    have mv2 : Mv [p] H2 (upd H2 p (.ins a.C_Groups dx [("above_of", .ref d1), ("marks", .ref d2)])) := .of_upd e2 (by intro _ z; cases z)
    have mv3 := ((sm1.mv (S := [p])).trans mv1).trans ((sm2.mv (S := [p])).trans mv2)
    have hp1 : d1 ≠ p := Ne.symm (ne_of_none hp hn1)
    have hd1' : DAt H2 d1 [] := (hd1.mv mv1 (by simpa using hp1)).keeps sm2
    have hn2' : H d2 = none := ((sm1.mv (S := [p])).trans mv1).none hn2
    have hp2 : d2 ≠ p := Ne.symm (ne_of_none hp hn2')
    exact q _ d1 d2 mv3 hn1 hn2' ⟨⟨p, dx, rfl, upd_same⟩, hd1'.mv mv2 (by simpa using hp1), hd2.mv mv2 (by simpa using hp2), (hd1.mv mv1 (by simpa using hp1)).ne hn2⟩
theorem cal_ginit (T : Txt K mg a) : Cal P w K mg base 1 a.f_Groups___init__ ["self"] [] (sp_ginit a.C_Groups) :=
  ⟨⟨_, _, ok_ginit T, T.F_Groups___init__.binds fun _ _ _ _ _ _ => .all fun us hl => match us, hl with | [_], _ => rfl, .nil⟩⟩
theorem u_gmake {C : Addr} {H : Hp} {Q : VK} {E : XK} (k : ∀ v H2 d1 d2, Same H H2 → H d1 = none → H d2 = none → GAt C H2 v d1 d2 [] [] → Q v H2) : MakeP C (sp_ginit C) [] H Q E := by
  refine ⟨[], rfl, fun x dx hx hd ne => ⟨x, dx, rfl, upd_same, fun H' d1 d2 mv h1 h2 hg => ⟨rfl, ?_⟩⟩⟩
  have z : ∀ {d : Addr}, upd (upd H dx (.own x)) x (.ins C dx []) d = none → H d = none := by
    intro d h
    unfold upd at h
    split at h
    · cases h
    · split at h
      · cases h
      · exact h
  refine k _ _ d1 d2 (fun b u e => ?_) (z h1) (z h2) hg
  have hb : b ≠ x := ne_of_none e hx
  refine mv.kp b u (by simpa using hb) ?_
  rw [upd_ne hb, upd_ne (ne_of_none e hd)]
  exact e
def SOk (s : Str) : Prop := s.length ≤ 100 ∧ ∀ c ∈ s.cps.toList, c < 0x110000
theorem sok_lay {s : Str} (h : SOk s) : PyData.canLay0 (.str s) = true := by
  show s.cps.all (· < 0x110000) = true
  rw [Array.all_eq_true']
  intro c hc
  exact decide_eq_true (h.2 c (by simpa using hc))
theorem soks_lay : ∀ {ss : List Str}, (∀ x ∈ ss, SOk x) → PyData.canLayAll0 (ss.map PyData.str) = true
  | [], _ => rfl
  | x :: r, h => by
    simp only [List.map_cons, PyData.canLayAll0, sok_lay (h x List.mem_cons_self), Bool.true_and]
    exact soks_lay fun y hy => h y (List.mem_cons_of_mem _ hy)
theorem strs_depS : ∀ ws : List Str, PyData.depthAll (ws.map PyData.str) ≤ 1
  | [] => by simp [PyData.depthAll]
  | _ :: r => by have := strs_depS r; simp only [List.map_cons, PyData.depthAll, PyData.depth]; omega
theorem r_eqSS {K : PySem.W.Frag} {H : Hp} {Q : VK} {f : Bool → Bool} {x y : V} {ss : List Str} (h1 : Dv H x (.list (ss.map PyData.str))) (h2 : Dv H y (.list (ss.map PyData.str))) (hs : ∀ x ∈ ss, SOk x) (h : Q (.bl (f true)) H) : rEqA K f x y H Q := by
  have hl : PyData.canLay0 (.list (ss.map PyData.str)) = true := by rw [PyData.canLay0]; exact soks_lay hs
  refine r_eqD h1 h2 hl hl ?_ (by rw [PySem.SeqAt.eqv_refl _ hl]; exact h)
  have := strs_depS ss
  rw [PyData.depth]; omega
theorem r_eqNilS {K : PySem.W.Frag} {H : Hp} {Q : VK} {f : Bool → Bool} {x y : V} {ss : List Str} (h1 : Dv H x (.list (ss.map PyData.str))) (h2 : Dv H y (.list [])) (hs : ∀ x ∈ ss, SOk x) (h : Q (.bl (f ss.isEmpty)) H) : rEqA K f x y H Q := by
  have e : PyData.eqv (.list (ss.map PyData.str)) (.list []) = ss.isEmpty := by cases ss <;> rfl
  refine r_eqD h1 h2 (by rw [PyData.canLay0]; exact soks_lay hs) rfl ?_ (by rw [e]; exact h)
  have := strs_depS ss
  rw [PyData.depth]; omega
theorem str_ext {x y : Str} (h : x.cps = y.cps) : x = y := by cases x; cases y; simp at h; rw [h]
theorem cps_app (x y : Str) : (x ++ y).cps = x.cps ++ y.cps := rfl
theorem r_ixAz {K : PySem.W.Frag} {H : Hp} {Q : VK} {i : Int} (h0 : 0 ≤ i) (h1 : i < 26) (h : Q (.str ⟨#[97 + i.toNat]⟩) H) : rIxK K (.str "abcdefghijklmnopqrstuvwxyz") (.int i) H Q := by
  obtain ⟨m, rfl⟩ := Int.eq_ofNat_of_zero_le h0
  have hm : m < 26 := by omega
  have e : (Str.cps "abcdefghijklmnopqrstuvwxyz").toList[m]? = some (97 + m) := by
    have z : ∀ m < 26, (Str.cps "abcdefghijklmnopqrstuvwxyz").toList[m]? = some (97 + m) := by decide
    exact z m hm
  exact r_ixSt (by decide) (atI_nat e) h
theorem mulS_few {z : Str} (hz : z.cps.size = 1) {n : Int} (h0 : 0 ≤ n) (h1 : n ≤ 6) : (mulS z n).length = n.toNat ∧ ∀ c ∈ (mulS z n).cps.toList, c ∈ z.cps.toList := by
  obtain ⟨⟨l⟩⟩ := z
  match l, hz with
  | [c], _ =>
    have : n = 0 ∨ n = 1 ∨ n = 2 ∨ n = 3 ∨ n = 4 ∨ n = 5 ∨ n = 6 := by omega
    rcases this with rfl | rfl | rfl | rfl | rfl | rfl | rfl <;> exact ⟨rfl, by simp [mulS, Str.empty, Str.length]⟩
theorem r_mulF {z : Str} {H : Hp} {Q : VK} {n : Int} (hz : z.cps.size = 1) (h0 : 0 ≤ n) (h1 : n ≤ 6) (h : (mulS z n).length ≤ 20 → Q (.str (mulS z n)) H) : rMulS (.str z) (.int n) H Q :=
  have e := (mulS_few hz h0 h1).1
  r_mulS h0 (by omega) (by show z.cps.size ≤ 10; omega) (by omega) (h (by omega))
theorem r_addF {i j : Str} {H : Hp} {Q : VK} (h1 : i.length ≤ 100) (h2 : j.length ≤ 100) (h : Q (.str (i ++ j)) H) : rAddS (.str i) (.str j) H Q := r_addS (by omega) h
theorem len_one {c : Nat} : (⟨#[c]⟩ : Str).length ≤ 20 := by show 1 ≤ 20; omega
theorem len_app {i j : Str} {n m : Nat} (h1 : i.length ≤ n) (h2 : j.length ≤ m) : (i ++ j).length ≤ n + m := by
  have : (i ++ j).length = i.length + j.length := by show (i ++ j).cps.size = _; rw [cps_app, Array.size_append]; rfl
  omega
theorem len_up {i : Str} (h : i.length ≤ 20) : i.length ≤ 100 := by omega
set_option hygiene false in
local macro_rules | `(tactic| walk_at "sl1") => `(tactic| first
  | exact len_one
  | assumption
  | fail)
set_option hygiene false in
local macro_rules | `(tactic| walk_at "sl") => `(tactic| first
  | (refine len_up ?_; walk_at "sl1")
  | (refine Nat.le_trans (len_app (n := 20) (m := 20) ?_ ?_) (by decide) <;> walk_at "sl1")
  | fail)
local macro_rules | `(tactic| walk_at "rd1") => `(tactic| first
  | ((with_reducible refine' r_ixAz ?e1 ?e2 ?_); (case e1 => omega); (case e2 => omega))
  | ((with_reducible refine' r_mulF ?e1 ?e2 ?e3 (fun _ => ?_)); (case e1 => exact rfl); (case e2 => omega); (case e3 => omega))
  | ((with_reducible refine' r_addF ?e1 ?e2 ?_); (case e1 => walk_at "sl"); (case e2 => walk_at "sl"))
  | fail)
def sp_law (K : PySem.W.Frag) : Sp := fun vs H Q _ => ∃ (l : Addr) (ns : List Int), vs = [.ref l] ∧ SqL K H l (ns.map V.int) ∧ ns.length ≤ 63 ∧ ∀ H', Q (.bl true) H'
theorem law_binds (T : Txt K mg a) (s : Shared) (u : Value) : BindsTo s a.fd_law ⟨[u], []⟩ [("_law_script", u)] := by
  obtain ⟨oc, od, kV, doc, pm, an, cdv, ct, osl, e, lk, hcd⟩ := T.F_law.ex
  rw [e]
  exact .of_eq rfl
theorem ok_law_cell_at (T : Txt K mg a) : FnOk P w K mg base CX0 1 a.f__law_cell_at a.fd__law_cell_at ["_law_script", "_law_k"] (spCell K) := by
  refine T.F__law_cell_at.ok sc__law_cell_at (fun vs H Q E h => ?_) (fun cdv A outer s H vs Q E hr h => ?_)
  · obtain ⟨_, _, _, rfl, _⟩ := h; rfl
  · obtain ⟨l, ns, i, rfl, hl, h0, k⟩ := h
    refine ⟨_, (pss_cut (ps_if (pt_cmpR op_lt (pv 1) (pe_callB call_lenK rfl T.no_len PySem.boot_len (pa_cons (pv 0) pa_nil)) (nomark _))
        (pss_one (ps_ret (pe_ix ix_K (pv 0) (pv 1) (fun _ _ => rfl))))
        pss_nil)
      (pss_one (ps_ret pe_int))), ?_⟩
    repeat' (walk_at "rd1")
    · exact r_ixL hl (cell_at h0 (by assumption)) k
    · rw [cell_no h0 (by assumption)] at k; exact k
theorem cal_law_cell_at (T : Txt K mg a) : Cal P w K mg base 1 a.f__law_cell_at ["_law_script", "_law_k"] [] (spCell K) :=
  ⟨⟨_, _, ok_law_cell_at T, T.F__law_cell_at.binds fun _ _ _ _ _ _ => .all fun us hl => match us, hl with | [_, _], _ => rfl, .nil⟩⟩
local macro_rules | `(tactic| walk_at "use") => `(tactic| first
  | ((with_reducible refine' u_cell ?e1 ?e2 ?_); (case e1 => walk_at "sql"); (case e2 => omega))
  | fail)
theorem r_ixStr {K : PySem.W.Frag} {H : Hp} {Q : VK} {v : V} {ss : List Str} {i : Int} (hp : Dv H v (.list (ss.map PyData.str))) (h0 : i = -1 ∧ ss ≠ [] ∨ 0 ≤ i ∧ i < ss.length) (h : ∀ n ∈ ss, Q (.str n) H) : rIxK K v (.int i) H Q := by
  rcases h0 with ⟨rfl, h0⟩ | ⟨h0, h1⟩
  · rw [← List.dropLast_concat_getLast h0] at hp
    refine r_ixD (.inr hp) (d := .str (ss.getLast h0)) (by rw [List.map_append]; exact atI_last _ _) (got_str (h _ (List.getLast_mem h0)))
  · obtain ⟨m, rfl⟩ := Int.eq_ofNat_of_zero_le h0
    have hi : m < ss.length := by omega
    have e : atI (ss.map PyData.str) (m : Int) = some (.str ss[m]) := atI_nat (by rw [List.getElem?_map, List.getElem?_eq_getElem hi]; rfl)
    exact r_ixD (.inr hp) e (got_str (h _ (List.getElem_mem hi)))
theorem getD_mem {ss : List Str} {i : Nat} (h : i < ss.length) : ss.getD i default ∈ ss := by
  rw [List.getD_eq_getElem?_getD, List.getElem?_eq_getElem h]
  exact List.getElem_mem h
theorem mkd_mem {ms : List (Str × PyData)} {k : Str} : mkd ms k = ms.any fun kv => decide (kv.1 = k) := by
  unfold mkd lkp
  rw [Option.isSome_map]
  induction ms with
  | nil => rfl
  | cons x r ih =>
    rw [List.find?_cons, List.any_cons]
    by_cases e : x.1 = k
    · simp [e]
    · simp only [e, decide_false, Bool.false_or]; exact ih
theorem mkd_put {ms : List (Str × PyData)} {n k : Str} {d : PyData} : mkd (putD ms n d) k = (mkd ms k || decide (k = n)) := by
  rw [mkd_mem, mkd_mem]
  unfold putD
  by_cases h : (ms.any fun kv => decide (kv.1 = n)) = true
  · rw [if_pos h, List.any_map]
    by_cases e : k = n
    · subst e
      rw [h]
      simp only [Bool.true_or]
      rw [List.any_eq_true] at h ⊢
      obtain ⟨x, hx, e⟩ := h
      have e' : x.1 = k := by simpa using e
      exact ⟨x, hx, by simp [e']⟩
    · simp only [e, decide_false, Bool.or_false]
      congr 1
      funext x
      simp only [Function.comp]
      split <;> rfl
  · rw [if_neg h, List.any_append]
    congr 1
    simp [eq_comm]
theorem mkd_drop {ms : List (Str × PyData)} {n k : Str} : mkd (dropD ms n) k = (mkd ms k && !decide (k = n)) := by
  rw [mkd_mem, mkd_mem]
  unfold dropD
  induction ms with
  | nil => rfl
  | cons x r ih =>
    rw [List.filter_cons, List.any_cons]
    by_cases h : x.1 = n
    · by_cases e : k = n
      · subst e; simp [h] at ih ⊢
      · have : ¬ n = k := fun z => e z.symm
        simp only [h, ne_eq, not_true, decide_false, Bool.false_eq_true, if_false, ih, this, Bool.false_or]
    · by_cases e : x.1 = k
      · have : ¬ k = n := fun z => h (e.trans z)
        simp [h, e, this]
      · simp only [h, e, ne_eq, not_false_eq_true, decide_true, if_true, List.any_cons, ih, decide_false, Bool.false_or]
theorem putD_len {ms : List (Str × PyData)} {n : Str} {d : PyData} (h : (ms.any fun kv => decide (kv.1 = n)) = true) : (putD ms n d).length = ms.length := by
  unfold putD
  rw [if_pos h, List.length_map]
theorem lkp_app {m : List (Str × PyData)} {n k : Str} {d e : PyData} (h : lkp m n = some e) : lkp (m ++ [(k, d)]) n = some e := by
  unfold lkp at h ⊢
  rw [List.find?_append]
  cases hf : m.find? (fun kv => decide (kv.1 = n)) with
  | none => rw [hf] at h; cases h
  | some x => rw [hf] at h; exact h
theorem lkp_new {m : List (Str × PyData)} {k : Str} {d : PyData} (h : lkp m k = none) : lkp (m ++ [(k, d)]) k = some d := by
  unfold lkp at h ⊢
  rw [List.find?_append]
  rw [Option.map_eq_none_iff] at h
  rw [h]
  simp
theorem Chain.app {m : List (Str × PyData)} {n k : Str} {d : PyData} {c : List Str} (h : Chain m n c) : Chain (m ++ [(k, d)]) n c := by
  induction h with
  | top e => exact .top (lkp_app e)
  | up e _ ih => exact .up (lkp_app e) ih
theorem lkp_none {m : List (Str × PyData)} {n : Str} (h : n ∉ m.map (·.1)) : lkp m n = none := by
  unfold lkp
  rw [Option.map_eq_none_iff, List.find?_eq_none]
  intro x hx
  have : x.1 ≠ n := fun e => h (List.mem_map.mpr ⟨x, hx, e⟩)
  simpa using this
structure GSt (nm : Int → Str) (m : List (Str × PyData)) : Prop where
  nm : ∀ (i : Nat) x, m[i]? = some x → x.1 = nm i
  ch : ∀ n ∈ m.map (·.1), ∃ c, Chain m n c ∧ c.length ≤ 8
  top : ∀ x, m[0]? = some x → x.2 = .none
  len : m.length ≤ 20
structure NmOk (nm : Int → Str) : Prop where
  inj : ∀ {k j : Int}, 0 ≤ k → k < 26 → 0 ≤ j → j < 26 → nm k = nm j → k = j
  ok : ∀ {k : Int}, 0 ≤ k → k < 26 → SOk (nm k)
theorem GSt.nil {nm : Int → Str} : GSt nm [] := ⟨fun i x h => by simp at h, fun n h => by simp at h, fun x h => by simp at h, Nat.zero_le _⟩
theorem GSt.sok {nm : Int → Str} {m : List (Str × PyData)} (h : GSt nm m) (hn : NmOk nm) : ∀ x ∈ m.map (·.1), SOk x := by
  intro x hx
  obtain ⟨y, hy, rfl⟩ := List.mem_map.mp hx
  obtain ⟨i, hi, e⟩ := List.getElem_of_mem hy
  have := h.nm i y (by rw [List.getElem?_eq_getElem hi, e])
  rw [this]
  exact hn.ok (by omega) (by have := h.len; omega)
theorem GSt.nd {nm : Int → Str} {m : List (Str × PyData)} (h : GSt nm m) (hn : NmOk nm) : (m.map (·.1)).Nodup := by
  rw [List.nodup_iff_pairwise_ne, List.pairwise_iff_getElem]
  intro i j hi hj hij e
  rw [List.length_map] at hi hj
  rw [List.getElem_map, List.getElem_map, h.nm i _ (List.getElem?_eq_getElem hi), h.nm j _ (List.getElem?_eq_getElem hj)] at e
  have := h.len
  have := hn.inj (by omega) (by omega) (by omega) (by omega) e
  omega
theorem GSt.mok {nm : Int → Str} {m : List (Str × PyData)} (h : GSt nm m) (hn : NmOk nm) : MOkG m := by
  refine ⟨fun n hs => ?_, h.nd hn, by have := h.len; omega⟩
  have : n ∈ m.map (·.1) := by
    rcases Classical.em (n ∈ m.map (·.1)) with z | z
    · exact z
    · rw [lkp_none z] at hs; cases hs
  obtain ⟨c, hc, hl⟩ := h.ch n this
  exact ⟨c, hc, by omega⟩
theorem GSt.fresh {nm : Int → Str} {m : List (Str × PyData)} (h : GSt nm m) (hn : NmOk nm) : lkp m (nm m.length) = none := by
  refine lkp_none fun hx => ?_
  obtain ⟨y, hy, e⟩ := List.mem_map.mp hx
  obtain ⟨i, hi, e2⟩ := List.getElem_of_mem hy
  have := h.nm i y (by rw [List.getElem?_eq_getElem hi, e2])
  rw [this] at e
  have hl := h.len
  have := hn.inj (by omega) (by omega) (by omega) (by omega) e
  omega
theorem GSt.snoc {nm : Int → Str} {m : List (Str × PyData)} {x : V} {d : PyData} (h : GSt nm m) (hn : NmOk nm) (hl : m.length < 20) (ha : AbOk m x d) : GSt nm (m ++ [(nm m.length, d)]) := by
  have hf := h.fresh hn
  refine ⟨fun i y hy => ?_, fun n hn => ?_, fun y hy => ?_, by rw [List.length_append]; simp; omega⟩
  · by_cases hi : i < m.length
    · rw [List.getElem?_append_left hi] at hy
      exact h.nm i y hy
    · rw [List.getElem?_append_right (by omega)] at hy
      have hi2 : i - m.length = 0 := by
        have := (List.getElem?_eq_some_iff.mp hy).1
        simp at this
        omega
      rw [hi2] at hy
      simp at hy
      subst hy
      show nm m.length = nm i
      congr 1
      omega
  · rw [List.map_append, List.mem_append] at hn
    rcases hn with hn | hn
    · obtain ⟨c, hc, hl⟩ := h.ch n hn
      exact ⟨c, hc.app, hl⟩
    · have : n = nm m.length := by simpa using hn
      subst this
      rcases ha with ⟨_, rfl⟩ | ⟨b, c, _, rfl, hc, hcl⟩
      · exact ⟨_, .top (lkp_new hf), by simp⟩
      · exact ⟨_, .up (lkp_new hf) hc.app, by simp; omega⟩
  · cases m with
    | nil =>
      rcases ha with ⟨_, rfl⟩ | ⟨b, c, _, rfl, hc, hcl⟩
      · simp at hy; rw [← hy]
      · have := hc.has
        simp [lkp] at this
    | cons z r => exact h.top y (by simpa using hy)
theorem GSt.first {nm : Int → Str} {z : Str × PyData} {r : List (Str × PyData)} (h : GSt nm (z :: r)) : Chain (z :: r) z.1 [z.1] := by
  refine .top ?_
  have := h.top z (by simp)
  unfold lkp
  simp [this]
theorem u_gmakeN {C : Addr} {H : Hp} {Q : VK} {E : XK} {us : List V} (e : us = []) (k : ∀ v H2 d1 d2, Same H H2 → H d1 = none → H d2 = none → GAt C H2 v d1 d2 [] [] → Q v H2) : MakeP C (sp_ginit C) us H Q E := by subst e; exact u_gmake k
set_option hygiene false in
local macro_rules | `(tactic| walk_at "rd1") => `(tactic| first
  | with_reducible refine u_gmakeN rfl (fun _ _ _ _ _ _ _ _ => ?_)
  | fail)
theorem u_chainE {C : Addr} {H : Hp} {Q : VK} {E : XK} {v : V} {d1 d2 : Addr} {m ms : List (Str × PyData)} {n : Str} (h : GAt C H v d1 d2 m ms) (hc : ∃ c, Chain m n c ∧ c.length ≤ 8) (q : ∀ c, Chain m n c → c.length ≤ 8 → ∀ q H', Same H H' → H q = none → LAt H' q (c.map PyData.str) → Q (.ref q) H') : sp_chain C [v, .str n] H Q E := by
  obtain ⟨c, hc, hl⟩ := hc
  exact u_chain h.rd hc (by omega) (q c hc hl)
theorem hchT {N : List Str} {m : List (Str × PyData)} {n : Str} (h : ∀ n ∈ N, ∃ c, Chain m n c ∧ c.length ≤ 8) (hn : n ∈ N) : ∃ c, Chain m n c ∧ c.length ≤ 8 := h n hn
local macro_rules | `(tactic| walk_at "mvS") => `(tactic| first
  | assumption
  | (refine' Mv.stepS ?m ?s; (case s => assumption); (case m => walk_at "mvS"))
  | (refine' Mv.step ?m ?s ?k; (case s => assumption); (case m => walk_at "mvS"); (case k => (intro b hb; rw [List.mem_singleton.mp hb]; exact Or.inl (by simp))))
  | fail)
theorem r_eqNilF {K : PySem.W.Frag} {H : Hp} {Q : VK} {f : Bool → Bool} {x y : V} {ss : List Str} (h1 : Dv H x (.list (ss.map PyData.str))) (h2 : Dv H y (.list [])) (hs : ∀ x ∈ ss, SOk x) (hne : ss ≠ []) (h : Q (.bl (f false)) H) : rEqA K f x y H Q := r_eqNilS h1 h2 hs (by cases ss with | nil => exact absurd rfl hne | cons => exact h)
theorem r_eqNilT {K : PySem.W.Frag} {H : Hp} {Q : VK} {f : Bool → Bool} {x y : V} (h1 : Dv H x (.list (([] : List Str).map PyData.str))) (h2 : Dv H y (.list [])) (h : Q (.bl (f true)) H) : rEqA K f x y H Q := r_eqNilS h1 h2 (by simp) h
theorem r_ixLast {K : PySem.W.Frag} {H : Hp} {Q : VK} {p : Addr} {ds : List PyData} {x : Str} (hp : LAt H p (ds ++ [.str x])) (h : Q (.str x) H) : rIxK K (.ref p) (.int (-1)) H Q := r_ixD (.inr hp.dv) (atI_last _ _) (got_str h)
theorem r_ix0 {K : PySem.W.Frag} {H : Hp} {Q : VK} {v : V} {ss : List Str} {x : Str} (hp : Dv H v (.list ((x :: ss).map PyData.str))) (h : Q (.str x) H) : rIxK K v (.int 0) H Q := r_ixD (.inr hp) (atI_nat (j := 0) rfl) (got_str h)
set_option hygiene false in
local macro_rules | `(tactic| walk_at "gat") => `(tactic| first
  | fail)
local macro_rules | `(tactic| walk_at "ins") => `(tactic| first
  | (refine' GAt.ins (d1 := _) (d2 := _) (m := _) (ms := _) ?m; (case m => walk_at "gat"))
  | fail)
set_option hygiene false in
local macro_rules | `(tactic| walk_at "abok") => `(tactic| first
  | exact Or.inl ⟨rfl, rfl⟩
  | exact Or.inr ⟨_, _, rfl, rfl, by assumption, by first | omega | simp⟩
  | fail)
local macro_rules | `(tactic| walk_at "rd1") => `(tactic| first
  | ((with_reducible refine' r_eqNilT ?e1 ?e2 ?_); (case e1 => walk_at "dat"); (case e2 => walk_at "dat"))
  | ((with_reducible refine' r_eqNilF ?e1 ?e2 ?e3 ?e4 ?_); (case e1 => walk_at "dat"); (case e2 => walk_at "dat"); (case e3 => assumption); (case e4 => assumption))
  | ((with_reducible refine' r_ix0 ?e1 ?_); (case e1 => walk_at "dat"))
  | fail)
def gnm (k s : Int) : Str := if s % 2 = 0 then (⟨#[97 + (k % 26).toNat]⟩ ++ mulS "r" (s / 2 % 7)) ++ ⟨#[97 + ((k + s / 14) % 26).toNat]⟩ else (mulS "r" (s / 2 % 7) ++ ⟨#[97 + (k / 26).toNat]⟩) ++ ⟨#[97 + (25 - k % 26).toNat]⟩
theorem gnm_inj {k j s : Int} (k0 : 0 ≤ k) (k1 : k < 26) (j0 : 0 ≤ j) (j1 : j < 26) (h : gnm k s = gnm j s) : k = j := by
  unfold gnm at h
  have h2 := congrArg (fun x : Str => x.cps.toList) h
  split at h2
  · simp only [cps_app, Array.toList_append, List.cons_append, List.nil_append, List.cons.injEq] at h2
    omega
  · simp only [cps_app, Array.toList_append, List.append_assoc] at h2
    have := List.append_cancel_left h2
    simp at this
    omega
theorem gnm_ok {k s : Int} (k0 : 0 ≤ k) (k1 : k < 26) : SOk (gnm k s) := by
  have h1 := Int.emod_nonneg (s / 2) (show (7 : Int) ≠ 0 by decide)
  have h2 := Int.emod_lt_of_pos (s / 2) (show (0 : Int) < 7 by decide)
  have h3 := Int.emod_nonneg (k + s / 14) (show (26 : Int) ≠ 0 by decide)
  have h4 := Int.emod_lt_of_pos (k + s / 14) (show (0 : Int) < 26 by decide)
  obtain ⟨hl, hm⟩ := mulS_few (z := "r") rfl h1 (by omega)
  have hl2 : (mulS "r" (s / 2 % 7)).cps.size = (s / 2 % 7).toNat := hl
  have hm2 : ∀ c ∈ (mulS "r" (s / 2 % 7)).cps.toList, c < 0x110000 := fun c hc => by
    have := hm c hc
    have e : (Str.cps "r").toList = [114] := rfl
    rw [e] at this
    simp at this
    omega
  unfold gnm
  split
  · refine ⟨?_, fun c hc => ?_⟩
    · show (_ : Str).cps.size ≤ _
      simp only [cps_app, Array.size_append, hl2]
      simp
      omega
    · simp only [cps_app, Array.toList_append, List.mem_append] at hc
      rcases hc with (hc | hc) | hc
      · simp at hc; omega
      · exact hm2 c hc
      · simp at hc; omega
  · refine ⟨?_, fun c hc => ?_⟩
    · show (_ : Str).cps.size ≤ _
      simp only [cps_app, Array.size_append, hl2]
      simp
      omega
    · simp only [cps_app, Array.toList_append, List.mem_append] at hc
      rcases hc with (hc | hc) | hc
      · exact hm2 c hc
      · simp at hc; omega
      · simp at hc; omega
theorem gnm_nm (s : Int) : NmOk (fun k => gnm k s) := ⟨gnm_inj, gnm_ok⟩
def sp_lname : Sp := fun vs H Q _ => ∃ k s, vs = [.int k, .int s] ∧ 0 ≤ k ∧ k < 26 ∧ Q (.str (gnm k s)) H
theorem u_lname {H : Hp} {Q : VK} {E : XK} {k s : Int} (h0 : 0 ≤ k) (h1 : k < 26) (q : Q (.str (gnm k s)) H) : sp_lname [.int k, .int s] H Q E := ⟨k, s, rfl, h0, h1, q⟩
theorem ok_lname (T : Txt K mg a) : FnOk P w K mg base CX0 1 a.f__law_name a.fd__law_name ["_law_k", "_law_style"] sp_lname := by
  refine T.F__law_name.ok sc__law_name (fun vs H Q E h => ?_) (fun cdv A outer s H vs Q E hr h => ?_)
  · obtain ⟨_, _, rfl, _⟩ := h; rfl
  · obtain ⟨k, s, rfl, h0, h1, q⟩ := h
    refine ⟨_, (pss_cut (ps_set (i := 2) sc__law_name.nd rfl (Or.inl rfl) pe_str)
      (pss_cut (ps_if (pt_cmpR (op_eqA hr.hu8) (pe_op op_modP (pv 1) pe_int) pe_int (nomark _))
        (pss_one (ps_ret (pe_op op_addS (pe_op op_addS (pe_ix ix_K (pv 2) (pe_op op_modP (pv 0) pe_int) (fun _ _ => rfl)) (pe_op op_mulS pe_str (pe_op op_modP (pe_op op_fdivB (pv 1) pe_int) pe_int))) (pe_ix ix_K (pv 2) (pe_op op_modP (pe_op op_add (pv 0) (pe_op op_fdivB (pv 1) pe_int)) pe_int) (fun _ _ => rfl)))))
        pss_nil)
      (pss_one (ps_ret (pe_op op_addS (pe_op op_addS (pe_op op_mulS pe_str (pe_op op_modP (pe_op op_fdivB (pv 1) pe_int) pe_int)) (pe_ix ix_K (pv 2) (pe_op op_fdivB (pv 0) pe_int) (fun _ _ => rfl))) (pe_ix ix_K (pv 2) (pe_op op_sub pe_int (pe_op op_modP (pv 0) pe_int)) (fun _ _ => rfl))))))), ?_⟩
    repeat' (walk_at "rd1")
    · unfold gnm at q
      rw [if_pos (by assumption)] at q
      exact q
    · unfold gnm at q
      rw [if_neg (by assumption)] at q
      exact q
theorem cal_lname (T : Txt K mg a) : Cal P w K mg base 1 a.f__law_name ["_law_k", "_law_style"] [] sp_lname :=
  ⟨⟨_, _, ok_lname T, T.F__law_name.binds fun _ _ _ _ _ _ => .all fun us hl => match us, hl with | [_, _], _ => rfl, .nil⟩⟩
def sp_named : Sp := fun vs H Q _ => ∃ v c ss, vs = [v, .int c] ∧ Dv H v (.list (ss.map PyData.str)) ∧ ss ≠ [] ∧ ∀ n ∈ ss, Q (.str n) H
theorem u_named {H : Hp} {Q : VK} {E : XK} {v : V} {c : Int} {ss : List Str} (h : Dv H v (.list (ss.map PyData.str))) (h0 : ss ≠ []) (q : ∀ n ∈ ss, Q (.str n) H) : sp_named [v, .int c] H Q E := ⟨v, c, ss, rfl, h, h0, q⟩
theorem ok_named (T : Txt K mg a) : FnOk P w K mg base CX0 1 a.f__law_named a.fd__law_named ["_law_names", "_law_cell"] sp_named := by
  refine T.F__law_named.ok sc__law_named (fun vs H Q E h => ?_) (fun cdv A outer s H vs Q E hr h => ?_)
  · obtain ⟨_, _, _, rfl, _⟩ := h; rfl
  · obtain ⟨v, c, ss, rfl, hd, h0, q⟩ := h
    have hl : 0 < ss.length := List.length_pos_iff.mpr h0
    refine ⟨_, (pss_cut (ps_if (pt_cmpR (op_eqA hr.hu8) (pe_op op_modP (pv 1) pe_int) pe_int (nomark _))
        (pss_one (ps_ret (pe_ix ix_K (pv 0) (pe_un un_neg pe_int) (fun _ _ => rfl))))
        pss_nil)
      (pss_one (ps_ret (pe_ix ix_K (pv 0) (pe_op op_modP (pe_op op_fdivB (pv 1) pe_int) (pe_callB call_lenK rfl T.no_len PySem.boot_len (pa_cons (pv 0) pa_nil))) (fun _ _ => rfl))))), ?_⟩
    repeat' (walk_at "rd1")
    · exact r_ixStr hd (.inl ⟨rfl, h0⟩) q
    · refine q _ (getD_mem ?_)
      omega
theorem cal_named (T : Txt K mg a) : Cal P w K mg base 1 a.f__law_named ["_law_names", "_law_cell"] [] sp_named :=
  ⟨⟨_, _, ok_named T, T.F__law_named.binds fun _ _ _ _ _ _ => .all fun us hl => match us, hl with | [_, _], _ => rfl, .nil⟩⟩
def sp_truth : Sp := fun vs H Q _ => ∃ x : Bool, vs = [.bl x, .bl x] ∧ Q (.bl true) H
theorem u_truth {H : Hp} {Q : VK} {E : XK} {x : Bool} (q : Q (.bl true) H) : sp_truth [.bl x, .bl x] H Q E := ⟨x, rfl, q⟩
theorem ok_truth (T : Txt K mg a) : FnOk P w K mg base CX0 1 a.f__law_truth_is a.fd__law_truth_is ["_law_found", "_law_due"] sp_truth := by
  refine T.F__law_truth_is.ok sc__law_truth_is (fun vs H Q E h => ?_) (fun cdv A outer s H vs Q E hr h => ?_)
  · obtain ⟨_, rfl, _⟩ := h; rfl
  · obtain ⟨x, rfl, q⟩ := h
    refine ⟨_, (pss_one (ps_ret (pe_and (pe_callB call_isi rfl T.no_isinstance PyProof.Rows.boot_isinstance (pa_cons (pv 0) (pa_cons (pe_bltn (v := .ty "bool") rfl T.no_bool PyProof.Rows.boot_bool rfl) pa_nil))) (pe_one (pe_cmpR (op_eqA hr.hu8) (pv 0) (pv 1) (nomark _)))))), ?_⟩
    repeat' (walk_at "rd1")
    all_goals (first | exact q | simpa using q)
theorem cal_truth (T : Txt K mg a) : Cal P w K mg base 1 a.f__law_truth_is ["_law_found", "_law_due"] [] sp_truth :=
  ⟨⟨_, _, ok_truth T, T.F__law_truth_is.binds fun _ _ _ _ _ _ => .all fun us hl => match us, hl with | [_, _], _ => rfl, .nil⟩⟩
def mkD (ms : List (Str × PyData)) (ns : List Str) : List (Str × PyData) := ns.map fun n => (n, .bool (mkd ms n))
theorem mkD_get {ms : List (Str × PyData)} {n : Str} : ∀ {ns : List Str}, n ∈ ns → lkp (mkD ms ns) n = some (.bool (mkd ms n))
  | k :: r, h => by
    by_cases e : k = n
    · subst e
      simp [lkp, mkD]
    · have := mkD_get (ms := ms) (ns := r) ((List.mem_cons.mp h).resolve_left (Ne.symm e))
      unfold lkp mkD at *
      simp only [List.map_cons, List.find?_cons, e, decide_false] at this ⊢
      exact this
theorem mkD_keys {ms : List (Str × PyData)} {ns : List Str} : (mkD ms ns).map (·.1) = ns := by
  unfold mkD
  rw [List.map_map]
  exact List.map_id' ns
theorem mkD_any {ms : List (Str × PyData)} {ns : List Str} {n : Str} (h : n ∈ ns) : ((mkD ms ns).any fun kv => decide (kv.1 = n)) = true := by
  rw [List.any_eq_true]
  exact ⟨(n, .bool (mkd ms n)), List.mem_map.mpr ⟨n, h, rfl⟩, by simp⟩
theorem mkD_put {ms : List (Str × PyData)} {ns : List Str} {n : Str} {d : PyData} (h : n ∈ ns) : putD (mkD ms ns) n (.bool true) = mkD (putD ms n d) ns := by
  unfold putD
  rw [if_pos (mkD_any h)]
  unfold mkD
  rw [List.map_map]
  refine List.map_congr_left fun k hk => ?_
  have := mkd_put (ms := ms) (n := n) (k := k) (d := d)
  unfold putD at this
  rw [this]
  by_cases e : k = n
  · simp [e]
  · simp [e]
theorem mkD_drop {ms : List (Str × PyData)} {ns : List Str} {n : Str} (h : n ∈ ns) : putD (mkD ms ns) n (.bool false) = mkD (dropD ms n) ns := by
  unfold putD
  rw [if_pos (mkD_any h)]
  unfold mkD
  rw [List.map_map]
  refine List.map_congr_left fun k hk => ?_
  rw [mkd_drop]
  by_cases e : k = n
  · simp [e]
  · simp [e]
theorem mkD_new {ms : List (Str × PyData)} {ns : List Str} {n : Str} (h : n ∉ ns) (hm : mkd ms n = false) : putD (mkD ms ns) n (.bool false) = mkD ms (ns ++ [n]) := by
  have e : lkp (mkD ms ns) n = none := lkp_none (by rw [mkD_keys]; exact h)
  rw [putD_new e]
  unfold mkD
  rw [List.map_append]
  simp [hm]
theorem lkp_mem {m : List (Str × PyData)} {n : Str} (h : (lkp m n).isSome = true) : n ∈ m.map (·.1) := by
  rcases Classical.em (n ∈ m.map (·.1)) with z | z
  · exact z
  · rw [lkp_none z] at h; cases h
theorem DAt.mvI {C : Addr} {H H' : Hp} {v : V} {fs : List (Str × V)} {p : Addr} {m : List (Str × PyData)} (h : Ins H v C fs) (hd : DAt H p m) (mv : Mv [p] H H') : Ins H' v C fs := ins_mvD h hd mv
theorem GAt.mvD {C : Addr} {H H' : Hp} {v : V} {d1 d2 q : Addr} {m ms x : List (Str × PyData)} (h : GAt C H v d1 d2 m ms) (hq : DAt H q x) (n1 : q ≠ d1) (n2 : q ≠ d2) (mv : Mv [q] H H') : GAt C H' v d1 d2 m ms :=
  ⟨ins_mvD h.ins hq mv, h.ab.mv mv (by simpa using Ne.symm n1), h.mks.mv mv (by simpa using Ne.symm n2), h.ne⟩
def sp_st (C : Addr) : Sp := fun vs H Q _ => ∃ v p d1 d2 m ms, vs = [v, .ref p] ∧ GAt C H v d1 d2 m ms ∧ (∀ n ∈ m.map (·.1), ∃ c, Chain m n c ∧ c.length ≤ 8) ∧ m.length ≤ 20 ∧ DAt H p (mkD ms (m.map (·.1))) ∧ p ≠ d1 ∧ p ≠ d2 ∧ ∀ H', Same H H' → Q (.bl true) H'
theorem u_st {C : Addr} {H : Hp} {Q : VK} {E : XK} {v : V} {p d1 d2 : Addr} {m ms : List (Str × PyData)} (h : GAt C H v d1 d2 m ms) (hc : ∀ n ∈ m.map (·.1), ∃ c, Chain m n c ∧ c.length ≤ 8) (hl : m.length ≤ 20) (hp : DAt H p (mkD ms (m.map (·.1)))) (n1 : p ≠ d1) (n2 : p ≠ d2) (q : ∀ H', Same H H' → Q (.bl true) H') : sp_st C [v, .ref p] H Q E := ⟨v, p, d1, d2, m, ms, rfl, h, hc, hl, hp, n1, n2, q⟩
set_option hygiene false in
local macro_rules | `(tactic| walk_at "use") => `(tactic| first
  | with_reducible refine u_truth ?_
  | fail)
theorem ok_st (T : Txt K mg a) : FnOk P w K mg base CX0 6 a.f__law_stands a.fd__law_stands ["_law_told", "_law_marks"] (sp_st a.C_Groups) := by
  have cl := T.cl_Groups
  have c__law_truth_is := cal_truth (P := P) (w := w) (base := base) T
  have c_Groups_awake := cal_awake (P := P) (w := w) (base := base) T
  have c_Groups_marked := cal_marked (P := P) (w := w) (base := base) T
  have c_Groups_chain := cal_chain (P := P) (w := w) (base := base) T
  refine T.F__law_stands.ok sc__law_stands (fun vs H Q E h => ?_) (fun cdv A outer s H vs Q E hr h => ?_)
  · obtain ⟨_, _, _, _, _, _, rfl, _⟩ := h; rfl
  · obtain ⟨v, p, d1, d2, m, ms, rfl, hg, hch, hml, hp, n1, n2, q⟩ := h
    refine ⟨_, (pss_cut (ps_thaw (ps_for PassesOwn.never rfl (pi_items (pv 1)) (pg_tup (n := 2) rfl (pgs_cons (pg_name (i := 2) sc__law_stands.nd rfl (Or.inl rfl)) (pgs_cons (pg_name (i := 3) sc__law_stands.nd rfl (Or.inl rfl)) pgs_nil)))
        (pss_cut (ps_if (pt_not (pt_truth (pn_call c__law_truth_is (hr.mono (by decide)) rfl T.mg__law_truth_is T.kp__law_truth_is (pa_cons (pn_meth (pv 0) T.cl_Groups T.m_Groups_marked c_Groups_marked (hr.mono (by decide)) (pa_cons (pv 2) pa_nil)) (pa_cons (pv 3) pa_nil))) (fun _ => rfl)))
          (pss_one (ps_ret pe_bl))
          pss_nil)
        (pss_cut (ps_set (i := 4) sc__law_stands.nd rfl (Or.inl rfl) pe_bl)
        (pss_cut (ps_for PassesOwn.never rfl (pi_list (pn_meth (pv 0) T.cl_Groups T.m_Groups_chain c_Groups_chain (hr.mono (by decide)) (pa_cons (pv 2) pa_nil))) (pg_name (i := 5) sc__law_stands.nd rfl (Or.inl rfl))
          (pss_one (ps_if (pt_truth (pe_dget (hu_of hr) (pv 1) (pv 5) (fun _ _ => rfl)) (fun _ => rfl))
            (pss_one (ps_set (i := 4) sc__law_stands.nd rfl (Or.inl rfl) pe_bl))
            pss_nil)))
        (pss_one (ps_if (pt_not (pt_truth (pn_call c__law_truth_is (hr.mono (by decide)) rfl T.mg__law_truth_is T.kp__law_truth_is (pa_cons (pn_meth (pv 0) T.cl_Groups T.m_Groups_awake c_Groups_awake (hr.mono (by decide)) (pa_cons (pv 2) pa_nil)) (pa_cons (pv 4) pa_nil))) (fun _ => rfl)))
          (pss_one (ps_ret pe_bl))
          pss_nil)))))))
      (pss_one (ps_ret pe_bl))), ?_⟩
    repeat' (walk_at "rd1")
    refine r_forItems hp (fun R hR => ?_) (fun o kvs e dk => ?_)
    · repeat' (walk_at "rd1")
      exact hR
    · have mvf : Mv [p] H (upd H p (.frz o (.dK kvs))) := .of_upd e (by intro _ z; cases z)
      have hgf : GRd a.C_Groups (upd H p (.frz o (.dK kvs))) v d1 d2 m ms := ⟨ins_mvD hg.ins hp mvf, hg.ab.rd.mv mvf (by simpa using Ne.symm n1), hg.mks.rd.mv mvf (by simpa using Ne.symm n2)⟩
      refine forI e dk [] (by simp) (fun j σ' H' => ∃ z1 z2 z3 z4, σ' = [some v, some (.ref p), z1, z2, z3, z4] ∧ Same (upd H p (.frz o (.dK kvs))) H') ⟨_, _, _, _, rfl, Same.refl _⟩ (fun j σ' H' ⟨_, _, _, _, _, sm⟩ => sm.mv) ?_ ?_
      · rintro j n d t σ' H' H2 hj ⟨z1, z2, z3, z4, rfl, sm⟩ hrd sm2 ht
        refine r_unpP ht (fun v1 v2 e1 e2 => ?_)
        obtain rfl := e1.str_inv
        have hmem : n ∈ m.map (·.1) := by
          have : (n, d) ∈ mkD ms (m.map (·.1)) := List.mem_of_getElem? hj
          unfold mkD at this
          obtain ⟨k, hk, e⟩ := List.mem_map.mp this
          cases e
          exact hk
        have hdd : d = .bool (mkd ms n) := by
          have : (n, d) ∈ mkD ms (m.map (·.1)) := List.mem_of_getElem? hj
          unfold mkD at this
          obtain ⟨k, hk, e⟩ := List.mem_map.mp this
          cases e
          rfl
        subst hdd
        obtain rfl := e2.bl_inv
        obtain ⟨c, hc, hcl⟩ := hch n hmem
        have hcl6 : c.length ≤ 60 := by omega
        have hns := hc.has
        have hg2 : GRd a.C_Groups H2 v d1 d2 m ms := (hgf.keeps sm).keeps sm2
        have hi2 := hg2.ins
        have hrd2 := hrd.keeps sm2
        repeat' (walk_at "rd1")
        rename_i q6 H6 sm6 hn6 hl6
        refine forDB (Hb := H6) (cs := c) (gd := PyData.str) hl6.dv (fun j σ' H' => ∃ z, σ' = [some v, some (.ref p), some (.str n), some (.bl (mkd ms n)), some (.bl (!(c.take j).any (mkd ms))), z] ∧ H' = H6) ⟨_, rfl, rfl⟩ (fun i σ' H' _ ⟨_, _, e⟩ a' xs _ hx => by rw [e]; exact hx) ?_ ?_
        · rintro j2 n' x σ' H' hj2 ⟨z, rfl, rfl⟩ hI hS
          obtain rfl := (hS (Same.refl _)).str_inv
          have hn' : n' ∈ m.map (·.1) := lkp_mem (hc.all n' (List.mem_of_getElem? hj2))
          have hget := mkD_get (ms := ms) hn'
          have hrd6 := hrd2.keeps sm6
          have etk : c.take (j2 + 1) = c.take j2 ++ [n'] := by rw [List.take_add_one, hj2]; rfl
          repeat' (walk_at "rd1")
          · rename_i hb
            have e3 : (!(c.take (j2 + 1)).any (mkd ms)) = false := by rw [etk, List.any_append]; simp [hb]
            rw [e3]
            exact ⟨_, rfl, rfl⟩
          · rename_i hb
            have e3 : (!(c.take (j2 + 1)).any (mkd ms)) = !(c.take j2).any (mkd ms) := by rw [etk, List.any_append]; simp [hb]
            rw [e3]
            exact ⟨_, rfl, rfl⟩
        · rintro σ' H7 ⟨z, rfl, rfl⟩
          have e2 : c.any (mkd ms) = slp m ms n := by unfold slp; rw [hc.fn hcl6]
          rw [List.take_length, e2]
          repeat' (walk_at "rd1")
          rename_i H8 sm8 _
          exact ⟨_, _, _, _, rfl, ((sm.trans sm2).trans sm6).trans sm8⟩
      · rintro σ' H' ⟨z1, z2, z3, z4, rfl, sm⟩
        repeat' (walk_at "rd1")
        exact q _ (Same.thaw e sm)
theorem cal_st (T : Txt K mg a) : Cal P w K mg base 6 a.f__law_stands ["_law_told", "_law_marks"] [] (sp_st a.C_Groups) :=
  ⟨⟨_, _, ok_st T, T.F__law_stands.binds fun _ _ _ _ _ _ => .all fun us hl => match us, hl with | [_, _], _ => rfl, .nil⟩⟩
theorem hin1 {m : List (Str × PyData)} {N : List Str} {n : Str} (e : N = m.map (·.1)) (h : n ∈ N) : (lkp m n).isSome = true := lkp_some (by rw [← e]; exact h)
theorem r_listM {H : Hp} {Q : VK} {p : Addr} {ms : List (Str × PyData)} {ns : List Str} (hp : DAt H p (mkD ms ns)) (k : ∀ q H', Same H H' → H q = none → LAt H' q (ns.map PyData.str) → Q (.ref q) H') : rListD [.ref p] H Q := by
  refine r_listD hp.rd (fun q H' sm hn hl => k q H' sm hn ?_)
  rw [mkD_keys] at hl
  exact hl
local macro_rules | `(tactic| walk_at "rd1") => `(tactic| first
  | ((with_reducible refine' r_listM ?e1 (fun _ _ _ _ _ => ?_)); (case e1 => walk_at "dla"))
  | fail)
local macro_rules | `(tactic| walk_at "use") => `(tactic| first
  | ((with_reducible refine' u_lname ?e1 ?e2 ?_); (case e1 => omega); (case e2 => first | omega | (simp only [List.length_cons, List.length_nil] at *; omega)))
  | ((with_reducible refine' u_chainE ?e1 ?e2 (fun _ _ _ _ _ _ _ _ => ?_)); (case e1 => walk_at "gat"); (case e2 => (refine' hchT ?a ?b; (case b => assumption); (case a => assumption))))
  | ((with_reducible refine' u_add ?e1 ?e2 ?e3 ?e4 (fun _ _ _ => ?_)); (case e1 => walk_at "gat"); (case e2 => omega); (case e3 => assumption); (case e4 => walk_at "abok"))
  | ((with_reducible refine' u_sleep ?e1 ?e2 ?e3 ?e4 (fun _ _ _ _ _ _ _ _ => ?_)); (case e1 => walk_at "gat"); (case e2 => assumption); (case e3 => omega); (case e4 => exact hin1 (by assumption) (by assumption)))
  | ((with_reducible refine' u_wake ?e1 ?e2 ?e4 (fun _ _ _ _ _ _ _ _ => ?_)); (case e1 => walk_at "gat"); (case e2 => assumption); (case e4 => exact hin1 (by assumption) (by assumption)))
  | ((with_reducible refine' u_named ?e1 ?e2 (fun _ _ => ?_)); (case e1 => walk_at "dat"); (case e2 => assumption))
  | fail)
set_option maxHeartbeats 0 in
theorem ok_law (T : Txt K mg a) : FnOk P w K mg base CX0 9 a.f_law a.fd_law ["_law_script"] (sp_law K) := by
  have cl := T.cl_Groups
  have c__law_cell_at := cal_law_cell_at (P := P) (w := w) (base := base) T
  have c__law_name := cal_lname (P := P) (w := w) (base := base) T
  have c__law_named := cal_named (P := P) (w := w) (base := base) T
  have c__law_stands := cal_st (P := P) (w := w) (base := base) T
  have c_Groups_0 := cal_ginit (P := P) (w := w) (base := base) T
  have c_Groups_add := cal_add (P := P) (w := w) (base := base) T
  have c_Groups_chain := cal_chain (P := P) (w := w) (base := base) T
  have c_Groups_sleep := cal_sleep (P := P) (w := w) (base := base) T
  have c_Groups_wake := cal_wake (P := P) (w := w) (base := base) T
  refine T.F_law.ok sc_law (fun vs H Q E h => ?_) (fun cdv A outer s H vs Q E hr h => ?_)
  · obtain ⟨_, _, rfl, _⟩ := h; rfl
  · obtain ⟨l, ns, rfl, hl, hn, q⟩ := h
    refine ⟨_, (pss_cut (ps_set (i := 1) sc_law.nd rfl (Or.inl rfl) (pn_call c__law_cell_at (hr.mono (by decide)) rfl T.mg__law_cell_at T.kp__law_cell_at (pa_cons (pv 0) (pa_cons pe_int pa_nil))))
      (pss_cut (ps_set (i := 2) sc_law.nd rfl (Or.inl rfl) (pn_make0 T.M_Groups c_Groups_0 (hr.mono (by decide)) rfl T.mg_Groups))
      (pss_cut (ps_set (i := 3) sc_law.nd rfl (Or.inr rfl) pe_dnewK)
      (pss_cut (ps_for PassesOwn.never rfl (pi_list (pe_slice sl_list (pv 0) (po_some pe_int) (po_some pe_int))) (pg_name (i := 4) sc_law.nd rfl (Or.inl rfl))
        (pss_cut (ps_set (i := 5) sc_law.nd rfl (Or.inr rfl) (pe_callTy (call_listD rfl) rfl T.no_list PyProof.Rows.boot_list (pa_cons (pv 3) pa_nil)))
        (pss_cut (ps_if (PW.pt (pw_or (pt_cmpR (op_eqA hr.hu8) (pv 5) (pe_lstD pa_nil) (nomark _)) (pw_or1 (PW.pt (pw_and (pt_cmpR op_lt (pe_op op_modP (pv 4) pe_int) pe_int (nomark _)) (pw_and1 (pt_cmpR op_lt (pe_callB call_lenK rfl T.no_len PySem.boot_len (pa_cons (pv 5) pa_nil)) pe_int (nomark _))))))))
          (pss_cut (ps_set (i := 6) sc_law.nd rfl (Or.inl rfl) pe_non)
          (pss_cut (ps_if (PW.pt (pw_and (pt_cmpR (op_neA hr.hu8) (pv 5) (pe_lstD pa_nil) (nomark _)) (pw_and1 (pt_cmpR op_gt (pe_op op_modP (pe_op op_fdivB (pv 4) pe_int) pe_int) pe_int (nomark _)))))
            (pss_one (ps_set (i := 6) sc_law.nd rfl (Or.inl rfl) (pn_call c__law_named (hr.mono (by decide)) rfl T.mg__law_named T.kp__law_named (pa_cons (pv 5) (pa_cons (pe_op op_fdivB (pv 4) pe_int) pa_nil)))))
            pss_nil)
          (pss_cut (ps_if (PW.pt (pw_and (pt_cmpR op_notN (pv 6) pe_non (nomark _)) (pw_and1 (pt_cmpR op_gt (pe_callB call_lenK rfl T.no_len PySem.boot_len (pa_cons (pn_meth (pv 2) T.cl_Groups T.m_Groups_chain c_Groups_chain (hr.mono (by decide)) (pa_cons (pv 6) pa_nil)) pa_nil)) pe_int (nomark _)))))
            (pss_one (ps_set (i := 6) sc_law.nd rfl (Or.inl rfl) (pe_ix ix_K (pv 5) pe_int (fun _ _ => rfl))))
            pss_nil)
          (pss_cut (ps_set (i := 7) sc_law.nd rfl (Or.inl rfl) (pn_call c__law_name (hr.mono (by decide)) rfl T.mg__law_name T.kp__law_name (pa_cons (pe_callB call_lenK rfl T.no_len PySem.boot_len (pa_cons (pv 5) pa_nil)) (pa_cons (pv 1) pa_nil))))
          (pss_cut (ps_expr (pn_meth (pv 2) T.cl_Groups T.m_Groups_add c_Groups_add (hr.mono (by decide)) (pa_cons (pv 7) (pa_cons (pv 6) pa_nil))))
          (pss_one (ps_dput (hu_of hr) (pv 3) (pv 7) pe_bl rfl)))))))
          (pss_one (ps_if (pt_cmpR op_lt (pe_op op_modP (pv 4) pe_int) pe_int (nomark _))
            (pss_cut (ps_set (i := 7) sc_law.nd rfl (Or.inl rfl) (pn_call c__law_named (hr.mono (by decide)) rfl T.mg__law_named T.kp__law_named (pa_cons (pv 5) (pa_cons (pe_op op_fdivB (pv 4) pe_int) pa_nil))))
            (pss_cut (ps_expr (pn_meth (pv 2) T.cl_Groups T.m_Groups_sleep c_Groups_sleep (hr.mono (by decide)) (pa_cons (pv 7) pa_nil)))
            (pss_one (ps_dput (hu_of hr) (pv 3) (pv 7) pe_bl rfl))))
            (pss_cut (ps_set (i := 7) sc_law.nd rfl (Or.inl rfl) (pn_call c__law_named (hr.mono (by decide)) rfl T.mg__law_named T.kp__law_named (pa_cons (pv 5) (pa_cons (pe_op op_fdivB (pv 4) pe_int) pa_nil))))
            (pss_cut (ps_if (pt_cmpR (op_eqA hr.hu8) (pe_op op_modP (pe_op op_fdivB (pv 4) pe_int) pe_int) pe_int (nomark _))
              (pss_one (ps_set (i := 7) sc_law.nd rfl (Or.inl rfl) (pe_ix ix_K (pe_lc (T := ["_law_one"]) (M := ["_law_script", "_law_style", "_law_told", "_law_marks", "_law_cell", "_law_names", "_law_above", "_law_name_here"]) (lcn (defScope s_law) ["_law_script", "_law_style", "_law_told", "_law_marks", "_law_cell", "_law_names", "_law_above", "_law_name_here"] rfl rfl (by decide +kernel)) rfl (pi_list (pv 5)) (fun _ _ _ _ _ => (pg_name (i := 0) (show List.Nodup (["_law_one", "_law_script", "_law_style", "_law_told", "_law_marks", "_law_cell", "_law_names", "_law_above", "_law_name_here"] : List Str) by decide +kernel) rfl (Or.inl rfl))) (gown_name (by decide)) (fun _ _ _ _ _ => (pif_one (PW.pt (pw_or (pt_truthK (K := K) rfl (pe_dget (hu_of hr) (pv 4) (pv 0) (fun _ _ => rfl)) (fun _ => rfl)) (pw_or1 (pt_cmpR (op_eqK (K := K) rfl hr.hu8) (pv 0) (pe_ix (ix_KK (K := K) rfl) (pv 6) pe_int (fun _ _ => rfl)) (nomark _))))))) (fun _ _ _ _ _ => (pv 0))) (pe_un un_neg pe_int) (fun _ _ => rfl))))
              pss_nil)
            (pss_cut (ps_expr (pn_meth (pv 2) T.cl_Groups T.m_Groups_wake c_Groups_wake (hr.mono (by decide)) (pa_cons (pv 7) pa_nil)))
            (pss_one (ps_dput (hu_of hr) (pv 3) (pv 7) pe_bl rfl))))))))
        (pss_one (ps_if (pt_not (pt_truth (pn_call c__law_stands (hr.mono (by decide)) rfl T.mg__law_stands T.kp__law_stands (pa_cons (pv 2) (pa_cons (pv 3) pa_nil))) (fun _ => rfl)))
          (pss_one (ps_ret pe_bl))
          pss_nil)))))
      (pss_one (ps_ret pe_bl)))))), ?_⟩
    repeat' (walk_at "rd1")
    rename_i v H1 d1 d2 sm1 hnd1 hnd2 hg1 pd H2 sm2 hn2 hp2
    have hl2 := Same.seq (sm1.trans sm2) hl
    refine r_cutN 1 37 hl2 (fun ql Hb smb hnb hq => ?_)
    have hml : ((ns.drop 1).take (37 - 1)).length ≤ 36 := by rw [List.length_take]; omega
    generalize (ns.drop 1).take (37 - 1) = cells at hq hml
    generalize hst0 : cell ns (0 : Int).toNat = st
    have hnm := gnm_nm st
    have hg2 := hg1.keeps sm2
    have ne1 : pd ≠ d1 := Ne.symm (hg1.ab.ne hn2)
    have ne2 : pd ≠ d2 := Ne.symm (hg1.mks.ne hn2)
    have ne6 : ql ≠ pd := Ne.symm (hp2.ne hnb)
    have ne8 : ql ≠ d1 := Ne.symm (hg2.ab.ne hnb)
    have ne9 : ql ≠ d2 := Ne.symm (hg2.mks.ne hnb)
    refine forDB (Hb := Hb) (cs := cells) (gd := PyData.int) hq.dv (fun j σ' H' => ∃ z4 z5 z6 z7 m ms, σ' = [some (.ref l), some (.int st), some v, some (.ref pd), z4, z5, z6, z7] ∧ Mv [pd, d1, d2] Hb H' ∧ GSt (fun k => gnm k st) m ∧ GAt a.C_Groups H' v d1 d2 m ms ∧ DAt H' pd (mkD ms (m.map (·.1))) ∧ (∀ k, mkd ms k = true → k ∈ m.map (·.1)) ∧ ms.length ≤ j) ⟨_, _, _, _, [], [], by rw [← hst0]; rfl, Mv.refl, GSt.nil, hg2.keeps smb, hp2.keeps smb, (by intro k hk; cases hk), Nat.zero_le _⟩ ?_ ?_ ?_
    · rintro i σ' H' hi ⟨z4, z5, z6, z7, m, ms, rfl, mv, _⟩ b xs hb hs
      cases hb
      exact mv.sq (by simp [ne6, ne8, ne9]) hs
    · rintro j c x σ' H' hj ⟨z4, z5, z6, z7, m, ms, rfl, mv, hst, hg, hpd, hmk, hml2⟩ hI hS
      have hx := hI rfl (fun b xs e => mv.tp b xs e)
      obtain rfl := hx.int_inv
      have hjl : j < cells.length := (List.getElem?_eq_some_iff.mp hj).1
      have hok := hst.sok hnm
      have hmok := hst.mok hnm
      have hi' := hg.ins
      have hlN : (m.map (·.1)).length = m.length := List.length_map _
      have hch := hst.ch
      have hm26 := hst.len
      generalize hNe : m.map (·.1) = N at hpd hok hlN hch hmk
      have hNs := hNe.symm
      have hmkl : (mkD ms N).length ≤ 100 := by unfold mkD; rw [List.length_map]; omega
      have hfr : lkp m (gnm (N.length : Nat) st) = none := by rw [hlN]; exact hst.fresh hnm
      have fin : ∀ (H8 H9 : Hp) (m' ms' X : List (Str × PyData)) (Q' : VK) (E' : XK), Mv [pd] H8 H9 → GAt a.C_Groups H8 v d1 d2 m' ms' → DAt H8 pd X → DAt H9 pd (mkD ms' (m'.map (·.1))) → GSt (fun k => gnm k st) m' → (∀ k, mkd ms' k = true → k ∈ m'.map (·.1)) → ms'.length ≤ j + 1 → Mv [pd, d1, d2] Hb H8 → (∀ H', (∃ m ms, Mv [pd, d1, d2] Hb H' ∧ GSt (fun k => gnm k st) m ∧ GAt a.C_Groups H' v d1 d2 m ms ∧ DAt H' pd (mkD ms (m.map (·.1))) ∧ (∀ k, mkd ms k = true → k ∈ m.map (·.1)) ∧ ms.length ≤ j + 1) → Q' (.bl true) H') → sp_st a.C_Groups [v, .ref pd] H9 Q' E' := by
        intro H8 H9 m' ms' X Q' E' mv9 hg8 hd8 hd9 hst' hmk' hl' mv8 cont
        have hg9 := hg8.mvD hd8 ne1 ne2 mv9
        exact u_st hg9 hst'.ch hst'.len hd9 ne1 ne2 (fun H' sm => cont H' ⟨m', ms', (mv8.step mv9 (fun b hb => by rw [List.mem_singleton.mp hb]; exact Or.inl (by simp))).stepS sm, hst', hg9.keeps sm, hd9.keeps sm, hmk', hl'⟩)
      have finA : ∀ (H8 H9 : Hp) (d : PyData) (X : List (Str × PyData)) (Q' : VK) (E' : XK), Mv [pd] H8 H9 → GAt a.C_Groups H8 v d1 d2 (m ++ [(gnm (N.length : Nat) st, d)]) ms → DAt H8 pd X → DAt H9 pd (putD (mkD ms N) (gnm (N.length : Nat) st) (.bool false)) → m.length < 20 → (∃ x, AbOk m x d) → Mv [pd, d1, d2] Hb H8 → (∀ H', (∃ m ms, Mv [pd, d1, d2] Hb H' ∧ GSt (fun k => gnm k st) m ∧ GAt a.C_Groups H' v d1 d2 m ms ∧ DAt H' pd (mkD ms (m.map (·.1))) ∧ (∀ k, mkd ms k = true → k ∈ m.map (·.1)) ∧ ms.length ≤ j + 1) → Q' (.bl true) H') → sp_st a.C_Groups [v, .ref pd] H9 Q' E' := by
        intro H8 H9 d X Q' E' mv9 hg8 hd8 hd9 hlt ⟨x, hab⟩ mv8 cont
        have hnN : gnm (N.length : Nat) st ∉ N := fun hh => by
          have := lkp_some (m := m) (by rw [hNe]; exact hh)
          rw [hfr] at this
          cases this
        have hmf : mkd ms (gnm (N.length : Nat) st) = false := by
          cases hh : mkd ms (gnm (N.length : Nat) st) with
          | false => rfl
          | true => exact absurd (hmk _ hh) hnN
        rw [mkD_new hnN hmf] at hd9
        have hst' := hst.snoc hnm hlt hab
        rw [← hlN] at hst'
        have hNa : (m ++ [(gnm (N.length : Nat) st, d)]).map (·.1) = N ++ [gnm (N.length : Nat) st] := by rw [List.map_append, hNe]; rfl
        exact fin H8 H9 _ ms X Q' E' mv9 hg8 hd8 (by rw [hNa]; exact hd9) hst' (fun k hk => by rw [hNa]; exact List.mem_append_left _ (hmk k hk)) (by omega) mv8 cont
      have finT : ∀ (H8 H9 : Hp) (n : Str) (X : List (Str × PyData)) (Q' : VK) (E' : XK), Mv [pd] H8 H9 → GAt a.C_Groups H8 v d1 d2 m (putD ms n (.bool true)) → DAt H8 pd X → DAt H9 pd (putD (mkD ms N) n (.bool true)) → n ∈ N → Mv [pd, d1, d2] Hb H8 → (∀ H', (∃ m ms, Mv [pd, d1, d2] Hb H' ∧ GSt (fun k => gnm k st) m ∧ GAt a.C_Groups H' v d1 d2 m ms ∧ DAt H' pd (mkD ms (m.map (·.1))) ∧ (∀ k, mkd ms k = true → k ∈ m.map (·.1)) ∧ ms.length ≤ j + 1) → Q' (.bl true) H') → sp_st a.C_Groups [v, .ref pd] H9 Q' E' := by
        intro H8 H9 n X Q' E' mv9 hg8 hd8 hd9 hn mv8 cont
        rw [mkD_put (d := .bool true) hn] at hd9
        refine fin H8 H9 m _ X Q' E' mv9 hg8 hd8 (by rw [hNe]; exact hd9) hst (fun k hk => ?_) ?_ mv8 cont
        · rw [mkd_put, Bool.or_eq_true] at hk
          rw [hNe]
          rcases hk with hk | hk
          · exact hmk k hk
          · rw [of_decide_eq_true hk]; exact hn
        · unfold putD
          split
          · rw [List.length_map]; omega
          · rw [List.length_append]; simp; omega
      have finW : ∀ (H8 H9 : Hp) (n : Str) (X : List (Str × PyData)) (Q' : VK) (E' : XK), Mv [pd] H8 H9 → GAt a.C_Groups H8 v d1 d2 m (dropD ms n) → DAt H8 pd X → DAt H9 pd (putD (mkD ms N) n (.bool false)) → n ∈ N → Mv [pd, d1, d2] Hb H8 → (∀ H', (∃ m ms, Mv [pd, d1, d2] Hb H' ∧ GSt (fun k => gnm k st) m ∧ GAt a.C_Groups H' v d1 d2 m ms ∧ DAt H' pd (mkD ms (m.map (·.1))) ∧ (∀ k, mkd ms k = true → k ∈ m.map (·.1)) ∧ ms.length ≤ j + 1) → Q' (.bl true) H') → sp_st a.C_Groups [v, .ref pd] H9 Q' E' := by
        intro H8 H9 n X Q' E' mv9 hg8 hd8 hd9 hn mv8 cont
        rw [mkD_drop hn] at hd9
        refine fin H8 H9 m _ X Q' E' mv9 hg8 hd8 (by rw [hNe]; exact hd9) hst (fun k hk => ?_) ?_ mv8 cont
        · rw [mkd_drop, Bool.and_eq_true] at hk
          rw [hNe]
          exact hmk k hk.1
        · have := List.length_filter_le (fun kv : Str × PyData => decide (kv.1 ≠ n)) ms
          unfold dropD
          omega
      rcases m with _ | ⟨z, r⟩
      · simp only [List.map_nil] at hNe
        subst hNe
        repeat' (walk_at "rd1")
        all_goals (refine' finA _ _ _ _ _ _ ?e1 ?e2 ?e3 ?e4 ?e5 ?e6 ?e7 ?_; (case e1 => assumption); (case e2 => assumption); (case e3 => walk_at "dla"); (case e4 => assumption); (case e5 => (simp only [List.length_cons, List.length_nil] at *; omega)); (case e6 => first | exact ⟨.non, Or.inl ⟨rfl, rfl⟩⟩ | exact ⟨_, Or.inr ⟨_, _, rfl, rfl, by assumption, by first | omega | simp⟩⟩); (case e7 => walk_at "mvS"))
        all_goals (rintro H' ⟨m', ms', i1, i2, i3, i4, i5, i6⟩; repeat' (walk_at "rd1"); exact ⟨_, _, _, _, m', ms', rfl, i1, i2, i3, i4, i5, i6⟩)
      · have hfst := hst.first
        simp only [List.map_cons] at hNe
        generalize r.map (·.1) = N' at hNe
        subst hNe
        have hnn : (z.1 :: N') ≠ [] := by simp
        repeat' (walk_at "rd1")
        all_goals try (refine' finA _ _ _ _ _ _ ?e1 ?e2 ?e3 ?e4 ?e5 ?e6 ?e7 ?_; (case e1 => assumption); (case e2 => assumption); (case e3 => walk_at "dla"); (case e4 => assumption); (case e5 => (simp only [List.length_cons, List.length_nil] at *; omega)); (case e6 => first | exact ⟨.non, Or.inl ⟨rfl, rfl⟩⟩ | exact ⟨_, Or.inr ⟨_, _, rfl, rfl, by assumption, by first | omega | simp⟩⟩); (case e7 => walk_at "mvS"); (rintro H' ⟨m', ms', i1, i2, i3, i4, i5, i6⟩; repeat' (walk_at "rd1"); exact ⟨_, _, _, _, m', ms', rfl, i1, i2, i3, i4, i5, i6⟩))
        all_goals try (refine' finT _ _ _ _ _ _ ?e1 ?e2 ?e3 ?e4 ?e5 ?e7 ?_; (case e1 => assumption); (case e2 => assumption); (case e3 => walk_at "dla"); (case e4 => assumption); (case e5 => assumption); (case e7 => walk_at "mvS"); (rintro H' ⟨m', ms', i1, i2, i3, i4, i5, i6⟩; repeat' (walk_at "rd1"); exact ⟨_, _, _, _, m', ms', rfl, i1, i2, i3, i4, i5, i6⟩))
        all_goals try (refine' finW _ _ _ _ _ _ ?e1 ?e2 ?e3 ?e4 ?e5 ?e7 ?_; (case e1 => assumption); (case e2 => assumption); (case e3 => walk_at "dla"); (case e4 => assumption); (case e5 => assumption); (case e7 => walk_at "mvS"); (rintro H' ⟨m', ms', i1, i2, i3, i4, i5, i6⟩; repeat' (walk_at "rd1"); exact ⟨_, _, _, _, m', ms', rfl, i1, i2, i3, i4, i5, i6⟩))
        rename_i qn Hn smn hnn2 hqn qe He sme hne hqe hb0 c0 c1 hb1 c2 c3 hb2 nn hnn3 c4 c5 hb3
        have hl3 : (z.1 :: N').length ≤ 60 := by simp only [List.length_cons] at *; omega
        refine r_lc (cs := z.1 :: N') (gd := PyData.str) (fun o => mkd ms o || decide (o = z.1)) PyData.str (hqn.keeps sme).dv (by omega) (fun _ => rfl) (fun x o H6 N6 ho sm6 hd6 yes no => ?_) (fun pq H6 sm6 hn6 hap => ?_)
        · obtain rfl := hd6.str_inv
          have hget := mkD_get (ms := ms) ho
          have hpd6 := ((hpd.keeps smn).keeps sme).keeps sm6
          have hqn6 := (hqn.keeps sme).keeps sm6
          repeat' (walk_at "rd1")
          · rename_i hb9
            refine r_lct (fun _ => ?_) (fun hb => by cases hb)
            repeat' (walk_at "rd1")
            exact yes (by rw [hb9]; rfl) _ _ (Same.refl _) (.str _)
          · rename_i hb9
            have e9 : (mkd ms o || decide (o = z.1)) = id (decide (V.str o = V.str z.1)) := by rw [hb9]; simp
            refine r_lct (fun hb => ?_) (fun hb => no (e9.trans hb) _ (Same.refl _))
            repeat' (walk_at "rd1")
            exact yes (e9.trans hb) _ _ (Same.refl _) (.str _)
        · have hne6 : (z.1 :: N').filter (fun o => mkd ms o || decide (o = z.1)) ≠ [] := by
            rw [List.filter_cons]
            simp
          repeat' (walk_at "rd1")
          refine r_ixStr hap.dv (.inl ⟨rfl, hne6⟩) (fun n6 hn6m => ?_)
          have hnm6 : n6 ∈ z.1 :: N' := (List.mem_filter.mp hn6m).1
          have hg6 := ((hg.keeps smn).keeps sme).keeps sm6
          have hpd6 := ((hpd.keeps smn).keeps sme).keeps sm6
          repeat' (walk_at "rd1")
          refine' finW _ _ _ _ _ _ ?e1 ?e2 ?e3 ?e4 ?e5 ?e7 ?_
          (case e1 => assumption); (case e2 => assumption); (case e3 => walk_at "dla"); (case e4 => assumption); (case e5 => assumption); (case e7 => walk_at "mvS")
          rintro H9 ⟨m', ms', i1, i2, i3, i4, i5, i6⟩
          repeat' (walk_at "rd1")
          exact ⟨_, _, _, _, m', ms', rfl, i1, i2, i3, i4, i5, i6⟩
    · rintro σ' H' ⟨z4, z5, z6, z7, m, ms, rfl, _⟩
      repeat' (walk_at "rd1")
      exact q _
end
end My
open PySem PySem.W PyProof.Rows
set_option maxRecDepth 100000 in
set_option maxHeartbeats 0 in
theorem PySem.Challenge.cw_wakefew_k23_awake_by_marks_holds : PySem.Challenge.rw_wakefew_k23_awake_by_marks.Holds := by
  w_on; o_law; k_head; (case hw => w_witness2)
  k_fill
  refine L2.walk_ofK (l := PySem.Challenge.rw_wakefew_k23_awake_by_marks) (n := 63) (k := 14) (x := "_law_script") (CX := L2.CX0) (sp := My.sp_law) rfl (by decide) rfl ⟨rfl, by decide, by decide⟩ (fun w h Y => PySem.W.kIn_of Y) ?F ?S ?C
  case F =>
    intro w mg fa h KX G hmg
    have T : ∃ a : My.Ad, a.f_law = a.f_law ∧ My.Txt (L2.KOf KX) mg a := by
      dsimp only [L2.KOf]
      refine' My.txt_mk KX G ?aC_Groups ?hgg ?htt ?a_Groups___init__ ?l_Groups___init__ ?c_Groups___init__ ?k_Groups___init__ ?i_Groups___init__ ?a_Groups_add ?l_Groups_add ?c_Groups_add ?k_Groups_add ?i_Groups_add ?t_Groups_add ?a_Groups_sleep ?l_Groups_sleep ?c_Groups_sleep ?k_Groups_sleep ?i_Groups_sleep ?a_Groups_wake ?l_Groups_wake ?c_Groups_wake ?k_Groups_wake ?i_Groups_wake ?a_Groups_awake ?l_Groups_awake ?c_Groups_awake ?k_Groups_awake ?i_Groups_awake ?a_Groups_marked ?l_Groups_marked ?c_Groups_marked ?k_Groups_marked ?i_Groups_marked ?a_Groups_chain ?l_Groups_chain ?c_Groups_chain ?k_Groups_chain ?i_Groups_chain ?a_Groups_within ?l_Groups_within ?c_Groups_within ?k_Groups_within ?i_Groups_within ?a_Groups_check_stands ?l_Groups_check_stands ?c_Groups_check_stands ?k_Groups_check_stands ?i_Groups_check_stands ?a_Groups_depth_of ?l_Groups_depth_of ?c_Groups_depth_of ?k_Groups_depth_of ?i_Groups_depth_of ?a_Groups_awake_within ?l_Groups_awake_within ?c_Groups_awake_within ?k_Groups_awake_within ?i_Groups_awake_within ?a_Groups_unmark ?l_Groups_unmark ?c_Groups_unmark ?k_Groups_unmark ?i_Groups_unmark ?a__law_cell_at ?l__law_cell_at ?c__law_cell_at ?k__law_cell_at ?a__law_name ?l__law_name ?c__law_name ?k__law_name ?a__law_named ?l__law_named ?c__law_named ?k__law_named ?a__law_truth_is ?l__law_truth_is ?c__law_truth_is ?k__law_truth_is ?a__law_stands ?l__law_stands ?c__law_stands ?k__law_stands ?a_law ?l_law ?c_law ?k_law ?pg_Groups ?hd_Groups ?po_Groups ?sa_Groups ?na_Groups_above_of ?na_Groups_marks ?mk_Groups ?kc_Groups ?t1_Groups ?t2_Groups ?t3_Groups ?aG_MOST_DEPTH ?no_any ?no_bool ?no_isinstance ?no_len ?no_list ?no_sorted
      (case aC_Groups => k_is)
      (case hgg => k_is)
      (case htt => k_is)
      (case a_Groups___init__ => k_is)
      (case l_Groups___init__ => k_is)
      (case c_Groups___init__ => k_is)
      (case k_Groups___init__ => k_is)
      (case i_Groups___init__ => k_is)
      (case a_Groups_add => k_is)
      (case l_Groups_add => k_is)
      (case c_Groups_add => k_is)
      (case k_Groups_add => k_is)
      (case i_Groups_add => k_is)
      (case t_Groups_add => k_is)
      (case a_Groups_sleep => k_is)
      (case l_Groups_sleep => k_is)
      (case c_Groups_sleep => k_is)
      (case k_Groups_sleep => k_is)
      (case i_Groups_sleep => k_is)
      (case a_Groups_wake => k_is)
      (case l_Groups_wake => k_is)
      (case c_Groups_wake => k_is)
      (case k_Groups_wake => k_is)
      (case i_Groups_wake => k_is)
      (case a_Groups_awake => k_is)
      (case l_Groups_awake => k_is)
      (case c_Groups_awake => k_is)
      (case k_Groups_awake => k_is)
      (case i_Groups_awake => k_is)
      (case a_Groups_marked => k_is)
      (case l_Groups_marked => k_is)
      (case c_Groups_marked => k_is)
      (case k_Groups_marked => k_is)
      (case i_Groups_marked => k_is)
      (case a_Groups_chain => k_is)
      (case l_Groups_chain => k_is)
      (case c_Groups_chain => k_is)
      (case k_Groups_chain => k_is)
      (case i_Groups_chain => k_is)
      (case a_Groups_within => k_is)
      (case l_Groups_within => k_is)
      (case c_Groups_within => k_is)
      (case k_Groups_within => k_is)
      (case i_Groups_within => k_is)
      (case a_Groups_check_stands => k_is)
      (case l_Groups_check_stands => k_is)
      (case c_Groups_check_stands => k_is)
      (case k_Groups_check_stands => k_is)
      (case i_Groups_check_stands => k_is)
      (case a_Groups_depth_of => k_is)
      (case l_Groups_depth_of => k_is)
      (case c_Groups_depth_of => k_is)
      (case k_Groups_depth_of => k_is)
      (case i_Groups_depth_of => k_is)
      (case a_Groups_awake_within => k_is)
      (case l_Groups_awake_within => k_is)
      (case c_Groups_awake_within => k_is)
      (case k_Groups_awake_within => k_is)
      (case i_Groups_awake_within => k_is)
      (case a_Groups_unmark => k_is)
      (case l_Groups_unmark => k_is)
      (case c_Groups_unmark => k_is)
      (case k_Groups_unmark => k_is)
      (case i_Groups_unmark => k_is)
      (case a__law_cell_at => k_is)
      (case l__law_cell_at => k_is)
      (case c__law_cell_at => k_is)
      (case k__law_cell_at => k_is)
      (case a__law_name => k_is)
      (case l__law_name => k_is)
      (case c__law_name => k_is)
      (case k__law_name => k_is)
      (case a__law_named => k_is)
      (case l__law_named => k_is)
      (case c__law_named => k_is)
      (case k__law_named => k_is)
      (case a__law_truth_is => k_is)
      (case l__law_truth_is => k_is)
      (case c__law_truth_is => k_is)
      (case k__law_truth_is => k_is)
      (case a__law_stands => k_is)
      (case l__law_stands => k_is)
      (case c__law_stands => k_is)
      (case k__law_stands => k_is)
      (case a_law => k_is)
      (case l_law => k_is)
      (case c_law => k_is)
      (case k_law => k_is)
      (case pg_Groups => k_is)
      (case hd_Groups => k_is)
      (case po_Groups => k_is)
      (case sa_Groups => k_is)
      (case na_Groups_above_of => k_is)
      (case na_Groups_marks => k_is)
      (case mk_Groups => k_is)
      (case kc_Groups => k_is)
      (case t1_Groups => k_is)
      (case t2_Groups => k_is)
      (case t3_Groups => k_is)
      (case aG_MOST_DEPTH => k_is)
      (case no_any => k_is)
      (case no_bool => k_is)
      (case no_isinstance => k_is)
      (case no_len => k_is)
      (case no_list => k_is)
      (case no_sorted => k_is)
    obtain ⟨a, _, T⟩ := T
    have e0 := hmg.symm.trans T.mg_law
    cases e0
    exact ⟨a.fd_law, fun s u => My.law_binds T s u, fun base kb nb => (My.ok_law T).mono (by decide)⟩
  case S => exact fun K H l ns hl hO hS => ⟨l, ns, rfl, hS, hl, fun _ => rfl⟩
  case C => exact fun H s e s' h => h
