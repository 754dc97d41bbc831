import PyProof.Rows.All
import Wide.All
import OpenK.AllK
import Wide.FinOn
import Lean
import PyProof.EqAt
import PyProof.EqKinds
import PyProof.TupleCall
import PyProof.StrLawsRepr
import PySem.Challenge.RW_wakefew_k13_row_of_deeds
set_option compiler.extract_closed false
set_option Elab.async false
set_option linter.all false
set_option maxRecDepth 100000
namespace L2
open PySem PySem.Spec PyProof.Rows

abbrev Key := Sum Int Str
def keyIs : Key → Value → Bool
  | .inl k, v => Value.isInt k v
  | .inr x, v => Value.isStrOf x v
def keyH (w : World) : Key → Int
  | .inl k => hashInt k
  | .inr x => hashStr w x
theorem keyIs_shape : ∀ {k : Key} {v : Value}, keyIs k v = true → (∃ i t, k = Sum.inl i ∧ v = Value.int i t) ∨ (∃ x t, k = Sum.inr x ∧ v = Value.str x t)
  | .inl i, v, h => by
    obtain ⟨t, e⟩ := Value.isInt_shape (k := i) (v := v) h
    exact .inl ⟨i, t, rfl, e⟩
  | .inr x, v, h => by
    obtain ⟨t, e⟩ := Value.isStrOf_shape (x := x) (v := v) h
    exact .inr ⟨x, t, rfl, e⟩
theorem keyIs_int (i : Int) (t : Tok) : keyIs (.inl i) (.int i t) = true := by simp [keyIs, Value.isInt]
theorem keyIs_str (x : Str) (t : Tok) : keyIs (.inr x) (.str x t) = true := by simp [keyIs, Value.isStrOf]
theorem key_ll (a b : Int) : decide ((Sum.inl a : Key) = Sum.inl b) = (a == b) := by
  by_cases e : a = b
  · subst e; simp
  · have h : ¬ (Sum.inl a : Key) = Sum.inl b := fun q => e (Sum.inl.inj q)
    rw [decide_eq_false h]
    exact (beq_eq_false_iff_ne.mpr e).symm
theorem key_rr (a b : Str) : decide ((Sum.inr a : Key) = Sum.inr b) = decide (a = b) := by
  by_cases e : a = b
  · subst e; simp
  · have h : ¬ (Sum.inr a : Key) = Sum.inr b := fun q => e (Sum.inr.inj q)
    rw [decide_eq_false h, decide_eq_false e]
theorem key_lr (a : Int) (b : Str) : decide ((Sum.inl a : Key) = Sum.inr b) = false := decide_eq_false (fun q => nomatch q)
theorem key_rl (a : Str) (b : Int) : decide ((Sum.inr a : Key) = Sum.inl b) = false := decide_eq_false (fun q => nomatch q)

def mixKind (prog : Program) (w : World) : PySem.KeyKind prog w Key where
  is := keyIs
  hash := keyH w
  inj := fun v a b ha hb => by
    rcases keyIs_shape ha with ⟨i, t, rfl, rfl⟩ | ⟨x, t, rfl, rfl⟩
    · rcases keyIs_shape hb with ⟨j, u, rfl, e⟩ | ⟨y, u, rfl, e⟩
      · injection e with e1 _; rw [e1]
      · exact nomatch e
    · rcases keyIs_shape hb with ⟨j, u, rfl, e⟩ | ⟨y, u, rfl, e⟩
      · exact nomatch e
      · injection e with e1 _; rw [e1]
  byValue := fun k v h => by
    rcases keyIs_shape h with ⟨i, t, rfl, rfl⟩ | ⟨x, t, rfl, rfl⟩ <;> rfl
  pyHash := fun hv h => by
    rcases keyIs_shape hv with ⟨i, t, rfl, rfl⟩ | ⟨x, t, rfl, rfl⟩
    · exact wpAny_pyHash_int h
    · exact wpAny_pyHash_str h
  eqBool := fun hu hv h => by
    rcases keyIs_shape hu with ⟨i, t, rfl, rfl⟩ | ⟨x, t, rfl, rfl⟩
    · rcases keyIs_shape hv with ⟨j, u, rfl, rfl⟩ | ⟨y, u, rfl, rfl⟩
      · rw [key_ll] at h; exact wpAny_eqBool_int h
      · rw [key_lr] at h; exact SeqAt.EqAt.int_str i t y u _ _ _ _ h
    · rcases keyIs_shape hv with ⟨j, u, rfl, rfl⟩ | ⟨y, u, rfl, rfl⟩
      · rw [key_rl] at h; exact SeqAt.EqAt.str_int x t j u _ _ _ _ h
      · rw [key_rr] at h; exact wpAny_eqBool_str h
  «strs» := fun k x t v h => by
    rcases keyIs_shape h with ⟨i, u, rfl, e⟩ | ⟨y, u, rfl, e⟩
    · exact nomatch e
    · injection e with e1 _
      subst e1
      cases v <;> rfl

theorem mixKind_int (prog : Program) (w : World) (i : Int) (t : Tok) : (mixKind prog w).is (.inl i) (.int i t) = true := keyIs_int i t
theorem mixKind_str (prog : Program) (w : World) (x : Str) (t : Tok) : (mixKind prog w).is (.inr x) (.str x t) = true := keyIs_str x t
end L2

namespace L2
open PySem PySem.Spec PyProof.Rows

inductive V where
  | non | bl (b : Bool) | int (i : Int) | str (x : Str) | byt (b : Array UInt8) | flt (b : UInt64) | ref (a : Addr) | ty (n : String)
  deriving DecidableEq

def RelV : V → Value → Prop
  | .non, u => u = Value.none
  | .bl b, u => u = Value.bool b
  | .int i, u => ∃ t, u = Value.int i t
  | .str x, u => ∃ t, u = Value.str x t
  | .byt b, u => ∃ t, u = Value.bytes b t
  | .flt b, u => ∃ t, u = Value.float b t
  | .ref a, u => u = Value.ref a
  | .ty n, u => u = Value.type n

abbrev Vals : List V → List Value → Prop := Paired RelV
theorem Vals.length {xs : List V} {us : List Value} (r : Vals xs us) : xs.length = us.length := Paired.length r
theorem Vals.get : ∀ {xs : List V} {us : List Value} {i : Nat} {x : V}, Vals xs us → xs[i]? = some x → ∃ u, us[i]? = some u ∧ RelV x u
  | _, _, _, _, .nil, e => by simp at e
  | _, _, 0, _, .cons r _, e => by simp at e; subst e; exact ⟨_, rfl, r⟩
  | _, _, i + 1, x, .cons _ t, e => by
    obtain ⟨u, h1, h2⟩ := Vals.get (i := i) (x := x) t (by simpa using e)
    exact ⟨u, by simpa using h1, h2⟩
theorem Vals.append : ∀ {xs ys : List V} {us ws : List Value}, Vals xs us → Vals ys ws → Vals (xs ++ ys) (us ++ ws)
  | _, _, _, _, .nil, s => s
  | _, _, _, _, .cons r t, s => .cons r (Vals.append t s)
theorem Vals.take : ∀ {xs : List V} {us : List Value} (n : Nat), Vals xs us → Vals (xs.take n) (us.take n)
  | _, _, 0, _ => .nil
  | _, _, _ + 1, .nil => .nil
  | _, _, n + 1, .cons r t => .cons r (Vals.take n t)
theorem Vals.drop : ∀ {xs : List V} {us : List Value} (n : Nat), Vals xs us → Vals (xs.drop n) (us.drop n)
  | _, _, 0, r => r
  | _, _, _ + 1, .nil => .nil
  | _, _, n + 1, .cons _ t => Vals.drop n t
def RelO : Option V → Option Value → Prop
  | some v, some u => RelV v u
  | none, none => True
  | _, _ => False
def KV {κ : Type} : List (κ × V) → List (κ × Value) → Prop := Paired fun (p : κ × V) (q : κ × Value) => p.1 = q.1 ∧ RelV p.2 q.2

def kV : Key → V
  | .inl i => .int i
  | .inr x => .str x

inductive HO where
    | lst (xs : List V)
    | tup (xs : List V)
    | dK (kvs : List (Key × V)) | dT (kvs : List (List Key × V))
    | set (S : Int → Bool) (n : Nat)
    | ins (C dx : Addr) (fs : List (Str × V))
    | own (x : Addr)
    | xd (fs : List (Str × V))
    | met (f x : Addr)
    | rng (lo hi : Int)
    | frz (o : Obj) (u : HO)
    | tbl (ps : Array Value)
    | ext (φ : Heap → Prop)

abbrev Hp := Addr → Option HO
def upd (H : Hp) (a : Addr) (o : HO) : Hp := fun b => if b = a then some o else H b
theorem upd_same {H : Hp} {a : Addr} {o : HO} : upd H a o a = some o := by unfold upd; rw [if_pos rfl]
theorem upd_ne {H : Hp} {a b : Addr} {o : HO} (h : b ≠ a) : upd H a o b = H b := by unfold upd; rw [if_neg h]
theorem ne_of {H : Hp} {a b : Addr} {o u : HO} (h : H a = some o) (h' : H b = some u) (d : o ≠ u) : a ≠ b := by
  intro e; subst e; rw [h] at h'; exact d (Option.some.inj h')
theorem ne_of_none {H : Hp} {a b : Addr} {o : HO} (h : H a = some o) (h' : H b = none) : a ≠ b := by
  intro e; subst e; rw [h] at h'; cases h'

section
variable (P : Program) (w : World)
def ObjOk (H : Hp) (h : Heap) (a : Addr) : HO → Prop
  | .lst xs => xs.length ≤ sizeLine ∧ ∃ (its : List Value) (n : Nat), Vals xs its ∧ h.get? a = some { cls := .type "list", data := .seq its.toArray n }
  | .tup xs => xs.length ≤ sizeLine ∧ ∃ its : List Value, Vals xs its ∧ IsTup h a its.toArray
  | .dK kvs => kvs.length ≤ sizeLine ∧ (a == sysModules) = false ∧ ∃ vs, KV kvs vs ∧ h.DictOf (mixKind P w) a vs
  | .dT kvs => kvs.length ≤ sizeLine ∧ (a == sysModules) = false ∧ ∃ xs : List (List Key × Addr × Value),
      Paired (fun (p : List Key × V) (q : List Key × Addr × Value) => p.1 = q.1 ∧ H q.2.1 = some (.tup (p.1.map kV)) ∧ RelV p.2 q.2.2) kvs xs ∧
      ∃ o es ep, h.get? a = some o ∧ o.ExactDict ∧ o.data = .dict es ep ∧ es.toList = xs.map (entryOfKey (tupleKind (mixKind P w))) ∧ (xs.map (·.1)).Nodup
  | .set S n => h.SetOf (intKind P w) a S n
  | .ins C dx fs => H dx = some (.own a) ∧ fs.length ≤ 1000 ∧ dx ≠ a ∧ h.get? a = some (PySem.W.instObj C dx) ∧
      ∃ mA, h.Ns1 dx mA ∧ (∀ f, RelO (fs.lookup f) (mA f)) ∧ PySem.Within mA (fs.map (·.1))
  | .own _ => ∃ o, h.get? a = some o
  | .xd fs => ∃ mA, h.Ns1 a mA ∧ ∀ f, RelO (fs.lookup f) (mA f)
  | .rng lo hi => ∃ t u v, h.get? a = some { cls := .type "range", data := .fields #[.int lo t, .int hi u, .int 1 v] }
  | .frz o u => h.get? a = some o ∧ ObjOk H h a u
  | .tbl ps => h.get? a = some { cls := .none, data := .fields ps }
  | .met f x => h.get? a = some (PySem.W.methodObj (.ref f) (.ref x))
  | .ext φ => φ h ∧ (∃ o, h.get? a = some o) ∧ ∀ h1 h2 : Heap, φ h1 → (∀ o, h1.get? a = some o → h2.get? a = some o) → φ h2
def HOk (H : Hp) (h : Heap) : Prop := ∀ a o, H a = some o → ObjOk P w H h a o
end

section
variable {P : Program} {w : World} {H H' : Hp} {h h' : Heap} {a : Addr} {o : HO}
theorem ObjOk.lt (x : ObjOk P w H h a o) : a < h.objs.size := by
  cases o with
  | lst xs => obtain ⟨_, _, _, _, e⟩ := x; exact Heap.lt_size e
  | tup xs => obtain ⟨_, _, _, p⟩ := x; exact p.lt
  | dK kvs => obtain ⟨_, _, _, _, o, _, _, e, _⟩ := x; exact Heap.lt_size e
  | dT kvs => obtain ⟨_, _, _, _, o, _, _, e, _⟩ := x; exact Heap.lt_size e
  | set S n => obtain ⟨o, _, _, _, e, _⟩ := x; exact Heap.lt_size e
  | ins C dx fs => obtain ⟨_, _, _, e, _⟩ := x; exact Heap.lt_size e
  | own y => obtain ⟨_, e⟩ := x; exact Heap.lt_size e
  | xd fs => obtain ⟨_, ⟨_, _, _, e, _⟩, _⟩ := x; exact Heap.lt_size e
  | rng lo hi => obtain ⟨_, _, _, e⟩ := x; exact Heap.lt_size e
  | frz ob u => obtain ⟨e, _⟩ := x; exact Heap.lt_size e
  | tbl ps => exact Heap.lt_size (show h.get? a = some _ from x)
  | met f y => exact Heap.lt_size (show h.get? a = some _ from x)
  | ext φ => obtain ⟨_, ⟨_, e⟩, _⟩ := x; exact Heap.lt_size e
theorem Paired.mapP {α β : Type} {F G : α → β → Prop} : ∀ {l₁ : List α} {l₂ : List β}, Paired F l₁ l₂ → (∀ a b, F a b → G a b) → Paired G l₁ l₂
  | _, _, .nil, _ => .nil
  | _, _, .cons r t, f => .cons (f _ _ r) (Paired.mapP t f)
theorem ObjOk.stay (x : ObjOk P w H h a o) (k : ∀ b u, (b = a ∨ H b = some (.own a)) → h.get? b = some u → h'.get? b = some u)
    (ho : ∀ b, H b = some (.own a) → H' b = some (.own a)) (ht : ∀ b xs, H b = some (.tup xs) → H' b = some (.tup xs)) : ObjOk P w H' h' a o := by
  induction o with
  | lst xs => obtain ⟨z, its, n, r, e⟩ := x; exact ⟨z, its, n, r, k _ _ (.inl rfl) e⟩
  | tup xs => obtain ⟨z, its, r, ob, e, c⟩ := x; exact ⟨z, its, r, ob, k _ _ (.inl rfl) e, c⟩
  | dK kvs => obtain ⟨z, y, vs, r, ob, es, ep, e, c⟩ := x; exact ⟨z, y, vs, r, ob, es, ep, k _ _ (.inl rfl) e, c⟩
  | dT kvs =>
    obtain ⟨z, y, xs, r, ob, es, ep, e, c⟩ := x
    exact ⟨z, y, xs, Paired.mapP r fun p q z => ⟨z.1, ht _ _ z.2.1, z.2.2⟩, ob, es, ep, k _ _ (.inl rfl) e, c⟩
  | set S n => obtain ⟨ob, es, ep, t, e, c⟩ := x; exact ⟨ob, es, ep, t, k _ _ (.inl rfl) e, c⟩
  | ins C dx fs =>
    obtain ⟨d, z, ne, e, mA, ⟨od, es, ep, e2, c⟩, r⟩ := x
    exact ⟨ho _ d, z, ne, k _ _ (.inl rfl) e, mA, ⟨od, es, ep, k _ _ (.inr d) e2, c⟩, r⟩
  | own y => obtain ⟨ob, e⟩ := x; exact ⟨ob, k _ _ (.inl rfl) e⟩
  | xd fs => obtain ⟨mA, ⟨od, es, ep, e, c⟩, r⟩ := x; exact ⟨mA, ⟨od, es, ep, k _ _ (.inl rfl) e, c⟩, r⟩
  | rng lo hi => obtain ⟨t, u, v, e⟩ := x; exact ⟨t, u, v, k _ _ (.inl rfl) e⟩
  | frz ob u ih => obtain ⟨e, q⟩ := x; exact ⟨k _ _ (.inl rfl) e, ih q⟩
  | tbl ps =>
    have e : h.get? a = some { cls := .none, data := .fields ps } := x
    show h'.get? a = some { cls := .none, data := .fields ps }
    exact k a _ (.inl rfl) e
  | met f y =>
    have e : h.get? a = some (PySem.W.methodObj (.ref f) (.ref y)) := x
    show h'.get? a = some (PySem.W.methodObj (.ref f) (.ref y))
    exact k a _ (.inl rfl) e
  | ext φ => obtain ⟨p, ⟨o, e⟩, st⟩ := x; exact ⟨st _ _ p fun o q => k _ _ (.inl rfl) q, ⟨o, k _ _ (.inl rfl) e⟩, st⟩
theorem HOk.lt (x : HOk P w H h) (e : H a = some o) : a < h.objs.size := (x a o e).lt
theorem HOk.fresh (x : HOk P w H h) (e : h.objs.size ≤ a) : H a = none := by
  cases q : H a with
  | none => rfl
  | some u => exact absurd (Nat.lt_of_lt_of_le (x.lt q) e) (Nat.lt_irrefl _)
theorem HOk.kept (x : HOk P w H h) (k : ∀ b u, h.get? b = some u → h'.get? b = some u) : HOk P w H h' := fun a o e =>
  (x a o e).stay (fun b u _ q => k b u q) (fun _ q => q) fun _ _ q => q
theorem HOk.laid (x : HOk P w H h) (k : ∀ b u, h.get? b = some u → h'.get? b = some u) (hp : h.objs.size ≤ a) (new : ObjOk P w (upd H a o) h' a o) : HOk P w (upd H a o) h' := fun b u e => by
  have hn := x.fresh hp
  by_cases hb : b = a
  · subst hb; rw [upd_same] at e; cases e; exact new
  · rw [upd_ne hb] at e
    exact (x b u e).stay (fun c v _ q => k c v q) (fun c q => by rw [upd_ne (ne_of_none q hn)]; exact q) fun c xs q => by rw [upd_ne (ne_of_none q hn)]; exact q
end

def Rd (H : Hp) (a : Addr) (u : HO) : Prop := H a = some u ∨ ∃ o, H a = some (.frz o u)
theorem Rd.of {H : Hp} {a : Addr} {u : HO} (h : H a = some u) : Rd H a u := .inl h
theorem Rd.ok {P : Program} {w : World} {H : Hp} {h : Heap} {a : Addr} {u : HO} (r : Rd H a u) (x : HOk P w H h) : ObjOk P w H h a u := by
  rcases r with r | ⟨o, r⟩
  · exact x a u r
  · obtain ⟨_, q⟩ := x a _ r
    exact q
def Mut : Option HO → Prop
  | some (.lst _) => True
  | some (.dK _) => True
  | some (.dT _) => True
  | some (.set _ _) => True
  | some (.ins _ _ _) => True
  | some (.ext _) => True
  | _ => False
section
variable {P : Program} {w : World} {H : Hp} {h h' : Heap} {x e : Addr} {o' : HO}
theorem HOk.write (ok : HOk P w H h) (mu : Mut (H x)) (he : e = x ∨ H e = some (.own x)) (k : ∀ b u, b ≠ e → h.get? b = some u → h'.get? b = some u) (heo : ∃ u, h'.get? e = some u)
    (new : ObjOk P w (upd H x o') h' x o') : HOk P w (upd H x o') h' := fun b u q => by
  have nown : ∀ c y, H c = some (.own y) → c ≠ x := fun c y r z => by subst z; rw [r] at mu; exact mu
  have ntup : ∀ c xs, H c = some (.tup xs) → c ≠ x := fun c xs r z => by subst z; rw [r] at mu; exact mu
  by_cases hb : b = x
  · subst hb; rw [upd_same] at q; cases q; exact new
  · rw [upd_ne hb] at q
    by_cases hbe : b = e
    · have q' : H b = some (.own x) := by
        rcases he with z | z
        · exact absurd (hbe.trans z) hb
        · rw [hbe]; exact z
      rw [q] at q'; cases q'
      obtain ⟨v, hv⟩ := heo
      exact ⟨v, by rw [hbe]; exact hv⟩
    · refine (ok b u q).stay (fun c v hc r => k c v ?_ r) (fun c r => by rw [upd_ne (nown c b r)]; exact r) fun c xs r => by rw [upd_ne (ntup c xs r)]; exact r
      rcases hc with rfl | hc
      · exact hbe
      · rintro rfl
        rcases he with z | z
        · exact nown c b hc z
        · rw [hc] at z; cases z; exact hb rfl
end

structure Un (fs ex : List Addr) (H H' : Hp) (h h' : Heap) : Prop where
  keep : ∀ b o, h.get? b = some o → H b = none → b ∉ fs → b ∉ ex → h'.get? b = some o
  slot : ∀ b o, h.get? b = some o → H b = none → b ∈ fs → b ∉ ex → ∃ sl, h'.get? b = some { o with slots := sl }
  free : ∀ b o, h.get? b = some o → H b = none → b ∉ ex → H' b = none
  there : ∀ b o, h.get? b = some o → b ∉ ex → ∃ o', h'.get? b = some o'
  tups : ∀ b xs, H b = some (.tup xs) → H' b = some (.tup xs)
  frzs : ∀ b o u, H b = some (.frz o u) → H' b = some (.frz o u)
  tbls : ∀ b ps, H b = some (.tbl ps) → ∃ more, H' b = some (.tbl (ps ++ more))
section
variable {fs fs' ex ex' : List Addr} {H H1 H2 : Hp} {h h1 h2 h' : Heap} {a x e : Addr} {o : HO}
theorem Un.any (u : Un fs ex H H1 h h1) {b : Addr} {ob : Obj} (q : h.get? b = some ob) (n : H b = none) (hx : b ∉ ex) : ∃ sl, h1.get? b = some { ob with slots := sl } := by
  by_cases hb : b ∈ fs
  · exact u.slot b ob q n hb hx
  · exact ⟨ob.slots, u.keep b ob q n hb hx⟩
theorem Un.kept (k : ∀ b u, h.get? b = some u → h'.get? b = some u) : Un fs ex H H h h' :=
  ⟨fun b ob q _ _ _ => k b ob q, fun b ob q _ _ _ => ⟨ob.slots, k b ob q⟩, fun _ _ _ n _ => n, fun b ob q _ => ⟨ob, k b ob q⟩, fun _ _ q => q, fun _ _ _ q => q, fun _ ps q => ⟨#[], by rw [q]; simp⟩⟩
theorem Un.refl : Un fs ex H H h h := Un.kept fun _ _ q => q
theorem Un.laid (k : ∀ b u, h.get? b = some u → h'.get? b = some u) (hp : h.objs.size ≤ a) (hn : H a = none) : Un fs ex H (upd H a o) h h' where
  keep := fun b u q _ _ _ => k b u q
  slot := fun b u q _ _ _ => ⟨u.slots, k b u q⟩
  free := fun b u q n _ => by rw [upd_ne (Nat.ne_of_lt (Nat.lt_of_lt_of_le (Heap.lt_size q) hp))]; exact n
  there := fun b u q _ => ⟨u, k b u q⟩
  tups := fun b xs q => by rw [upd_ne (ne_of_none q hn)]; exact q
  frzs := fun b u xs q => by rw [upd_ne (ne_of_none q hn)]; exact q
  tbls := fun b ps q => ⟨#[], by rw [upd_ne (ne_of_none q hn), q]; simp⟩
theorem Un.write (mu : Mut (H x)) (he : e = x ∨ H e = some (.own x)) (k : ∀ b u, b ≠ e → h.get? b = some u → h'.get? b = some u) (heo : ∃ u, h'.get? e = some u) : Un fs ex H (upd H x o) h h' := by
  have hx : ∀ b, H b = none → b ≠ x := fun b n z => by subst z; rw [n] at mu; exact mu
  have hb : ∀ b, H b = none → b ≠ e := fun b n z => by
    subst z
    rcases he with r | r
    · exact hx b n r
    · rw [n] at r; cases r
  have hm : ∀ b u, H b = some u → ¬ Mut (some u) → b ≠ x := fun b u q nm z => by subst z; rw [q] at mu; exact nm mu
  refine ⟨fun b u q n _ _ => k b u (hb b n) q, fun b u q n _ _ => ⟨u.slots, k b u (hb b n) q⟩, fun b u q n _ => by rw [upd_ne (hx b n)]; exact n, fun b u q _ => ?_,
    fun b xs q => by rw [upd_ne (hm b _ q fun z => z)]; exact q, fun b u xs q => by rw [upd_ne (hm b _ q fun z => z)]; exact q, fun b ps q => ⟨#[], by rw [upd_ne (hm b _ q fun z => z), q]; simp⟩⟩
  by_cases hbe : b = e
  · subst hbe; exact heo
  · exact ⟨u, k b u hbe q⟩
end

def trk (h : Heap) (H : Hp) : List Addr := (List.range h.objs.size).filter fun a => (H a).isSome
def hidT (h : Heap) (H : Hp) : Heap := PySem.W.hideAll h (trk h H)
theorem hidT_size (h : Heap) (H : Hp) : (hidT h H).objs.size = h.objs.size := PySem.W.hideAll_size _ _
theorem hidT_get {h : Heap} {H : Hp} {b : Addr} {o : Obj} (e : h.get? b = some o) (n : H b = none) : (hidT h H).get? b = some o :=
  PySem.W.hideAll_get _ e fun hm => by
    have q : (H b).isSome = true := (List.mem_filter.mp hm).2
    rw [n] at q; simp at q
theorem of_hidT {h : Heap} {H : Hp} {b : Addr} {o : Obj} (e : (hidT h H).get? b = some o) : h.get? b = some o ∧ H b = none := by
  have e' : h.get? b = some o := PySem.W.of_hideAll (trk h H) e
  refine ⟨e', ?_⟩
  cases q : H b with
  | none => rfl
  | some x =>
    have hm : b ∈ trk h H := List.mem_filter.mpr ⟨List.mem_range.mpr (Heap.lt_size e'), by simp [q]⟩
    have z : (hidT h H).get? b = none := PySem.W.hideAll_none (trk h H) hm
    rw [z] at e; cases e

def allNews (g h : Heap) (L : Addr) : List (Addr × Obj) := (List.range h.objs.size).filterMap fun a => if a = L ∨ (g.get? a).isSome = true then none else (h.get? a).map fun o => (a, o)
def rest (g h : Heap) (L d : Addr) : List (Addr × Obj) := (allNews g h L).filter fun p => decide (p.1 ≠ d)
end L2

namespace L2
open PySem PySem.Spec PyProof.Rows

structure Mod (K : PySem.W.Frag) (mg : Str → Option Value) (base : Heap) : Prop where
  kin : K.In base
  glob : base.Ns mainGlobals mg
  blt : ∃ mb, base.Ns builtinsNs mb ∧ ∀ x : Str, x ≠ "__name__" → mb x = bootBuiltins x
  nolimit : base.NoLimit

structure Cx where
  prog : Program
  w : World
  K : PySem.W.Frag
  mg : Str → Option Value
  base : Heap
  A : Around
  N : List Str
  s₀ : Shared
  H₀ : Hp
  env : Env
  outer : List Env
  stack : List Env
  ex : List Addr
  fn : Str → Bool
  calm : Bool
  pn : List (Addr × Obj)
  xe : Value → Shared → Prop
def frs (l : List Env) : List Addr := l.filterMap (·.frame)
abbrev Cx.fs (X : Cx) : List Addr := frs X.outer

def Vis (sc : Scope) (x : Str) : Prop := sc.names.lookup x = some .local ∨ sc.names.lookup x = some .cell ∨ sc.names.lookup x = some .free
def Loc (sc : Scope) (x : Str) : Prop := sc.names.lookup x = some .local ∨ sc.names.lookup x = some .cell
def Look (env : Env) (h : Heap) (m : Str → Option Value) (x : Str) (u : Value) : Prop :=
  (env.kindOf x = some .local ∧ m x = some u) ∨ ((env.kindOf x = some .cell ∨ env.kindOf x = some .free) ∧ ∃ c, env.cells.lookup x = some c ∧ h.IsCell c (some u))

structure Cx.Ok (X : Cx) : Prop where
  mod : Mod X.K X.mg X.base
  kind : X.env.scope.kind = .function
  glob : X.env.globals = mainGlobals
  blt : X.env.builtins = builtinsNs
  above : X.s₀.heap.objs.size ≤ X.env.locals
  inj : ∀ x y c, X.env.cells.lookup x = some c → X.env.cells.lookup y = some c → x = y
  has : ∀ x, (X.env.kindOf x = some .cell ∨ X.env.kindOf x = some .free) → ∃ c, X.env.cells.lookup x = some c
  cab : ∀ x c, X.fn x = true → X.env.cells.lookup x = some c → X.s₀.heap.objs.size ≤ c
  hd : X.calm = true → X.A.handled = none
  frames : X.A.frames = some X.stack
  stk : X.stack = X.outer ∨ (X.stack = X.env :: X.outer ∧ X.env.frame = some X.env.locals)
  exf : ∀ b ∈ X.ex, b ≠ X.env.locals ∧ ∀ x c, X.env.cells.lookup x = some c → c ≠ b
  bs : ∀ b o, X.base.get? b = some o → X.s₀.heap.get? b = some o ∧ X.H₀ b = none
  bsz : X.base.objs.size ≤ X.s₀.heap.objs.size
  noex : ∀ b o, X.base.get? b = some o → b ∉ X.ex
  exfs : ∀ b ∈ X.ex, b ∉ X.fs
  funs : X.s₀.heap.FunFrames X.base X.outer
  frf : ∀ b ∈ X.fs, X.H₀ b = none

structure Inv (X : Cx) (pins : List (Addr × Obj)) (σ : List (Option V)) (H : Hp) (s : Shared) : Prop where
  ok : X.Ok
  os : s.os = X.s₀.os
  bare : AllBare s.gens
  base : Un X.fs X.ex X.H₀ H X.s₀.heap s.heap
  loc : ∃ m, s.heap.Ns X.env.locals m ∧ ∀ (i : Nat) (x : Str) (v : V), X.N[i]? = some x → σ[i]? = some (some v) → Vis X.env.scope x → ∃ u, RelV v u ∧ Look X.env s.heap m x u
  cell : ∀ x c, X.env.cells.lookup x = some c → ∃ v, s.heap.IsCell c v
  free : H X.env.locals = none
  freeC : ∀ x c, X.env.cells.lookup x = some c → H c = none
  pin : ∀ p ∈ X.pn ++ pins, s.heap.get? p.1 = some p.2 ∧ H p.1 = none ∧ p.1 ≠ X.env.locals ∧ p.1 ∉ X.fs ∧ ∀ v, p.2.data ≠ .cell v
  hok : HOk X.prog X.w H s.heap
  len : σ.length = X.N.length

section
variable {X : Cx} {pins : List (Addr × Obj)} {σ : List (Option V)} {H H' : Hp} {s : Shared} {h' : Heap}

theorem Cx.Ok.nofr (ok : X.Ok) {b : Addr} {o : Obj} (e : X.base.get? b = some o) : b ∉ X.fs := fun hb => by
  have := (ok.funs.mem hb).1
  rw [e] at this; cases this
theorem Inv.bs (I : Inv X pins σ H s) : ∀ b o, X.base.get? b = some o → s.heap.get? b = some o ∧ H b = none := fun b o e =>
  ⟨I.base.keep b o (I.ok.bs b o e).1 (I.ok.bs b o e).2 (I.ok.nofr e) (I.ok.noex b o e), I.base.free b o (I.ok.bs b o e).1 (I.ok.bs b o e).2 (I.ok.noex b o e)⟩
theorem Inv.bk (I : Inv X pins σ H s) : ∀ b o, X.base.get? b = some o → s.heap.get? b = some o := fun b o e => (I.bs b o e).1
theorem Inv.mod (I : Inv X pins σ H s) : Mod X.K X.mg X.base := I.ok.mod
theorem Inv.kIn (I : Inv X pins σ H s) : X.K.In s.heap := I.ok.mod.kin.keeps I.bk
theorem Inv.fr (I : Inv X pins σ H s) : ∃ m, Fr X.base X.env.locals s.heap m :=
  let ⟨m, hn, _⟩ := I.loc
  ⟨m, hn, I.bk, Nat.le_trans I.ok.bsz I.ok.above⟩
theorem Inv.lt (I : Inv X pins σ H s) : X.env.locals < s.heap.objs.size := let ⟨_, hn, _⟩ := I.loc; hn.lt
theorem Inv.sz (I : Inv X pins σ H s) : X.s₀.heap.objs.size ≤ s.heap.objs.size := Nat.le_trans I.ok.above (Nat.le_of_lt I.lt)
theorem Inv.nofs (I : Inv X pins σ H s) {a : Addr} (h : s.heap.objs.size ≤ a) : a ∉ X.fs := fun hb => by
  obtain ⟨_, o, ho, _⟩ := I.ok.funs.mem hb
  exact absurd (Nat.lt_of_lt_of_le (Heap.lt_size ho) (Nat.le_trans I.sz h)) (Nat.lt_irrefl _)
theorem Inv.cne (I : Inv X pins σ H s) : ∀ x c, X.env.cells.lookup x = some c → c ≠ X.env.locals := fun x c e z => by
  obtain ⟨v, o, ho, hd⟩ := I.cell x c e
  obtain ⟨m, ⟨o', es, ep, ho', hd', _⟩, _⟩ := I.loc
  rw [z, ho'] at ho; cases ho; rw [hd'] at hd; cases hd
theorem Inv.funs (I : Inv X pins σ H s) : s.heap.FunFrames X.base X.outer := by
  have all : ∀ (l : List Env), (∀ b ∈ frs l, b ∈ X.fs) → X.s₀.heap.FunFrames X.base l → s.heap.FunFrames X.base l := by
    intro l
    induction l with
    | nil => intro _ _; trivial
    | cons env r ih =>
      intro hs hl
      obtain ⟨hk, ⟨L, o, hf, hn, ho, hd⟩, hr⟩ := hl
      have hL : L ∈ X.fs := hs L (by unfold frs; rw [List.filterMap_cons, hf]; exact List.mem_cons_self)
      obtain ⟨sl, e⟩ := I.base.slot L o ho (I.ok.frf L hL) hL fun z => I.ok.exfs L z hL
      exact ⟨hk, ⟨L, _, hf, hn, e, hd⟩, ih (fun b hb => hs b (by unfold frs; rw [List.filterMap_cons, hf]; exact List.mem_cons_of_mem _ hb)) hr⟩
  exact all X.outer (fun _ hb => hb) I.ok.funs

theorem Inv.stack (I : Inv X pins σ H s) : s.heap.FunFrames X.base X.stack := by
  rcases I.ok.stk with e | ⟨e, hf⟩
  · rw [e]; exact I.funs
  · rw [e]
    obtain ⟨m, hn, _⟩ := I.loc
    refine .cons (by rw [I.ok.kind]; decide) hf hn ?_ I.funs
    exact Heap.get?_none_of_le (Nat.le_trans I.ok.bsz I.ok.above)
theorem Inv.stkSub (I : Inv X pins σ H s) : ∀ b ∈ frs X.stack, b ∈ X.env.locals :: X.fs := fun b hb => by
  rcases I.ok.stk with e | ⟨e, hf⟩
  · rw [e] at hb; exact List.mem_cons_of_mem _ hb
  · rw [e] at hb
    unfold frs at hb
    rw [List.filterMap_cons, hf] at hb
    exact hb
theorem Inv.stkFree (I : Inv X pins σ H s) : ∀ b ∈ frs X.stack, H b = none := fun b hb => by
  rcases List.mem_cons.mp (I.stkSub b hb) with e | hb
  · rw [e]; exact I.free
  · obtain ⟨_, o, ho, _⟩ := I.ok.funs.mem hb
    exact I.base.free b o ho (I.ok.frf b hb) fun z => I.ok.exfs b z hb

theorem Inv.step {g' : Array GenState} {t' : Nat} {d' : Drawn} {ch : List Addr} (I : Inv X pins σ H s)
    (hch : ∀ b ∈ ch, (b ∈ X.ex ∨ X.s₀.heap.objs.size ≤ b) ∧ b ≠ X.env.locals ∧ (∀ x c, X.env.cells.lookup x = some c → c ≠ b) ∧ ∀ p ∈ X.pn ++ pins, p.1 ≠ b)
    (keep : ∀ b o, b ≠ X.env.locals → b ∉ X.fs → b ∉ ch → s.heap.get? b = some o → H b = none → h'.get? b = some o)
    (slot : ∀ b o, b ≠ X.env.locals → b ∈ X.fs → b ∉ ch → s.heap.get? b = some o → H b = none → ∃ sl, h'.get? b = some { o with slots := sl }) (free : ∀ b o, b ∉ ch → s.heap.get? b = some o → H b = none → H' b = none)
    (there : ∀ b o, b ∉ ch → s.heap.get? b = some o → ∃ o', h'.get? b = some o')
    (tups : ∀ b xs, H b = some (.tup xs) → H' b = some (.tup xs)) (frzs : ∀ b o u, H b = some (.frz o u) → H' b = some (.frz o u)) (tbls : ∀ b ps, H b = some (.tbl ps) → ∃ more, H' b = some (.tbl (ps ++ more)))
    (ns : ∀ m, s.heap.Ns X.env.locals m → h'.Ns X.env.locals m) (hok : HOk X.prog X.w H' h') (hg : AllBare g') :
    Inv X pins σ H' { s with heap := h', gens := g', drawn := d', toks := t' } := by
  have neL : ∀ b o, X.s₀.heap.get? b = some o → b ≠ X.env.locals := fun b o e => Nat.ne_of_lt (Nat.lt_of_lt_of_le (Heap.lt_size e) I.ok.above)
  have neC : ∀ b o, X.s₀.heap.get? b = some o → b ∉ X.ex → b ∉ ch := fun b o e hx hb => by
    rcases (hch b hb).1 with z | z
    · exact hx z
    · exact absurd (Nat.lt_of_lt_of_le (Heap.lt_size e) z) (Nat.lt_irrefl _)
  have cellK : ∀ x c, X.env.cells.lookup x = some c → ∀ v, s.heap.IsCell c v → h'.IsCell c v := fun x c e v ⟨o, ho, hd⟩ => by
    have nch : c ∉ ch := fun z => (hch c z).2.2.1 x c e rfl
    by_cases hc : c ∈ X.fs
    · obtain ⟨sl, q⟩ := slot c o (I.cne x c e) hc nch ho (I.freeC x c e)
      exact ⟨_, q, hd⟩
    · exact ⟨o, keep c o (I.cne x c e) hc nch ho (I.freeC x c e), hd⟩
  refine ⟨I.ok, I.os, hg, ⟨fun b o e n hb hx => ?_, fun b o e n hb hx => ?_, fun b o e n hx => ?_, fun b o e hx => ?_, fun b xs e => tups b xs (I.base.tups b xs e), fun b o xs e => frzs b o xs (I.base.frzs b o xs e), fun b ps e => ?_⟩, ?_, fun x c e => ?_, ?_, fun x c e => ?_, fun p hp => ?_, hok, I.len⟩
  · exact keep b o (neL b o e) hb (neC b o e hx) (I.base.keep b o e n hb hx) (I.base.free b o e n hx)
  · obtain ⟨sl, e1⟩ := I.base.slot b o e n hb hx
    obtain ⟨sl', e2⟩ := slot b _ (neL b o e) hb (neC b o e hx) e1 (I.base.free b o e n hx)
    exact ⟨sl', e2⟩
  · obtain ⟨o', e1⟩ := I.base.there b o e hx
    exact free b o' (neC b o e hx) e1 (I.base.free b o e n hx)
  · obtain ⟨o', e1⟩ := I.base.there b o e hx
    exact there b o' (neC b o e hx) e1
  · obtain ⟨m1, e1⟩ := I.base.tbls b ps e
    obtain ⟨m2, e2⟩ := tbls b _ e1
    exact ⟨m1 ++ m2, by rw [e2, Array.append_assoc]⟩
  · obtain ⟨m, hn, hl⟩ := I.loc
    refine ⟨m, ns m hn, fun i x v e1 e2 e3 => ?_⟩
    obtain ⟨u, r, l⟩ := hl i x v e1 e2 e3
    refine ⟨u, r, ?_⟩
    rcases l with l | ⟨k, c, e, z⟩
    · exact .inl l
    · exact .inr ⟨k, c, e, cellK x c e _ z⟩
  · obtain ⟨v, z⟩ := I.cell x c e
    exact ⟨v, cellK x c e v z⟩
  · obtain ⟨m, ⟨o, _, _, ho, _⟩, _⟩ := I.loc
    exact free _ o (fun z => (hch _ z).2.1 rfl) ho I.free
  · obtain ⟨v, o, ho, hd⟩ := I.cell x c e
    exact free c o (fun z => (hch c z).2.2.1 x c e rfl) ho (I.freeC x c e)
  · obtain ⟨e, n, ne, nf, d⟩ := I.pin p hp
    have nch : p.1 ∉ ch := fun z => (hch p.1 z).2.2.2 p hp rfl
    exact ⟨keep p.1 p.2 ne nf nch e n, free p.1 p.2 nch e n, ne, nf, d⟩
theorem Inv.un {t' : Nat} (I : Inv X pins σ H s) (u : Un X.fs [] H H' s.heap h') (hok : HOk X.prog X.w H' h') : Inv X pins σ H' { s with heap := h', toks := t' } := by
  obtain ⟨m, ⟨o, es, ep, ho, r⟩, _⟩ := id I.loc
  obtain ⟨sl, hL⟩ := u.any ho I.free (by simp)
  exact I.step (g' := s.gens) (d' := s.drawn) (ch := []) (fun _ z => nomatch z) (fun b o _ hb _ e n => u.keep b o e n hb (by simp)) (fun b o _ hb _ e n => u.slot b o e n hb (by simp)) (fun b o _ e n => u.free b o e n (by simp)) (fun b o _ e => u.there b o e (by simp)) u.tups u.frzs u.tbls (fun m' hm => by
    obtain ⟨o', es', ep', ho', r'⟩ := hm
    rw [ho] at ho'; cases ho'
    exact ⟨_, es', ep', hL, r'⟩) hok I.bare
theorem Inv.call {g' : Array GenState} {t' : Nat} {d' : Drawn} {ch : List Addr} (I : Inv X pins σ H s) (u : Un (frs X.stack) ch H H' s.heap h') (hok : HOk X.prog X.w H' h') (hg : AllBare g')
    (hch : ∀ b ∈ ch, (b ∈ X.ex ∨ X.s₀.heap.objs.size ≤ b) ∧ b ≠ X.env.locals ∧ (∀ x c, X.env.cells.lookup x = some c → c ≠ b) ∧ ∀ p ∈ X.pn ++ pins, p.1 ≠ b) :
    Inv X pins σ H' { s with heap := h', gens := g', drawn := d', toks := t' } := by
  obtain ⟨m, ⟨o, es, ep, ho, r⟩, _⟩ := id I.loc
  obtain ⟨sl, hL⟩ := u.any ho I.free fun z => (hch _ z).2.1 rfl
  exact I.step (ch := ch) hch (fun b o hL hb hc e n => u.keep b o e n (fun z => (List.mem_cons.mp (I.stkSub b z)).elim hL hb) hc) (fun b o _ _ hc e n => u.any e n hc) (fun b o hc e n => u.free b o e n hc) (fun b o hc e => u.there b o e hc) u.tups u.frzs u.tbls (fun m' hm => by
    obtain ⟨o', es', ep', ho', r'⟩ := hm
    rw [ho] at ho'; cases ho'
    exact ⟨_, es', ep', hL, r'⟩) hok hg
theorem Inv.turned {t' : Nat} {it : Addr} (I : Inv X pins σ H s) (k : ∀ b o, b ≠ it → s.heap.get? b = some o → h'.get? b = some o) (hn : H it = none) (hL : it ≠ X.env.locals)
    (h1 : it ∈ X.ex ∨ X.s₀.heap.objs.size ≤ it) (h2 : ∀ x c, X.env.cells.lookup x = some c → c ≠ it) (h3 : ∀ p ∈ X.pn ++ pins, p.1 ≠ it) : Inv X pins σ H { s with heap := h', toks := t' } := by
  have nit : ∀ b u, H b = some u → b ≠ it := fun b u e z => by rw [z, hn] at e; cases e
  refine I.step (g' := s.gens) (d' := s.drawn) (ch := [it]) (fun b hb => ?_) (fun b o _ _ hc e _ => k b o (fun z => hc (by simp [z])) e) (fun b o _ _ hc e _ => ⟨o.slots, k b o (fun z => hc (by simp [z])) e⟩) (fun _ _ _ _ n => n)
    (fun b o hc e => ⟨o, k b o (fun z => hc (by simp [z])) e⟩) (fun _ _ e => e) (fun _ _ _ e => e) (fun b ps e => ⟨#[], by rw [e]; simp⟩) (fun m hm => ?_) (fun b u e => ?_) I.bare
  · have e : b = it := by simpa using hb
    subst e
    exact ⟨h1, hL, h2, h3⟩
  · obtain ⟨o, es, ep, ho, r⟩ := hm
    exact ⟨o, es, ep, k _ o (Ne.symm hL) ho, r⟩
  · refine (I.hok b u e).stay (fun c v hc q => k c v ?_ q) (fun _ q => q) fun _ _ q => q
    rcases hc with z | z
    · rw [z]; exact nit b u e
    · exact nit c _ z
theorem Inv.tok (I : Inv X pins σ H s) (t : Nat) : Inv X pins σ H { s with toks := t } := I.un (h' := s.heap) (t' := t) Un.refl I.hok
theorem Inv.kept {t' : Nat} (I : Inv X pins σ H s) (k : ∀ b u, s.heap.get? b = some u → h'.get? b = some u) : Inv X pins σ H { s with heap := h', toks := t' } := I.un (Un.kept k) (I.hok.kept k)
theorem Inv.laid {a : Addr} {o : HO} {t' : Nat} (I : Inv X pins σ H s) (k : ∀ b u, s.heap.get? b = some u → h'.get? b = some u) (hp : s.heap.objs.size ≤ a) (new : ObjOk X.prog X.w (upd H a o) h' a o) :
    Inv X pins σ (upd H a o) { s with heap := h', toks := t' } := I.un (Un.laid k hp (I.hok.fresh hp)) (I.hok.laid k hp new)
theorem Inv.write {x e : Addr} {o : HO} {t' : Nat} (I : Inv X pins σ H s) (mu : Mut (H x)) (he : e = x ∨ H e = some (.own x)) (k : ∀ b u, b ≠ e → s.heap.get? b = some u → h'.get? b = some u) (heo : ∃ u, h'.get? e = some u)
    (new : ObjOk X.prog X.w (upd H x o) h' x o) : Inv X pins σ (upd H x o) { s with heap := h', toks := t' } := I.un (Un.write mu he k heo) (I.hok.write mu he k heo new)
theorem Inv.weak {σ' : List (Option V)} (I : Inv X pins σ H s) (hl : σ'.length = σ.length) (w : ∀ (i : Nat) v, σ'[i]? = some (some v) → σ[i]? = some (some v)) : Inv X pins σ' H s :=
  ⟨I.ok, I.os, I.bare, I.base, let ⟨m, hn, hl'⟩ := I.loc; ⟨m, hn, fun i x v e1 e2 e3 => hl' i x v e1 (w i v e2) e3⟩, I.cell, I.free, I.freeC, I.pin, I.hok, hl.trans I.len⟩
theorem Inv.pins_of {pins' : List (Addr × Obj)} (I : Inv X pins σ H s) (h : ∀ p ∈ pins', s.heap.get? p.1 = some p.2 ∧ H p.1 = none ∧ p.1 ≠ X.env.locals ∧ p.1 ∉ X.fs ∧ ∀ v, p.2.data ≠ .cell v) : Inv X pins' σ H s :=
  ⟨I.ok, I.os, I.bare, I.base, I.loc, I.cell, I.free, I.freeC, fun p hp => (List.mem_append.mp hp).elim (fun z => I.pin p (List.mem_append_left _ z)) (h p), I.hok, I.len⟩

theorem nodup_ix {N : List Str} (hN : N.Nodup) {i j : Nat} {x : Str} (a : N[i]? = some x) (b : N[j]? = some x) : i = j := by
  obtain ⟨h1, e1⟩ := List.getElem?_eq_some_iff.mp a
  obtain ⟨h2, e2⟩ := List.getElem?_eq_some_iff.mp b
  exact (List.getElem_inj hN).mp (e1.trans e2.symm)

theorem store_ok2 {M : Model} {A : Around} {E : Value → Shared → Prop} {i : Nat} {x : Str} {v : V} {u : Value} {Q : Unit → Shared → Prop} (I : Inv X pins σ H s) (hN : X.N.Nodup) (hi : X.N[i]? = some x) (hx : Loc X.env.scope x) (r : RelV v u)
    (h : ∀ s', Inv X pins (σ.set i (some v)) H s' → (∃ a, Heap.SameBut a s.heap s'.heap ∧ (a = X.env.locals ∨ X.env.cells.lookup x = some a)) → Q () s') (hf : X.fn x = true ∨ X.env.scope.names.lookup x = some .local := by first | exact .inl rfl | exact .inr rfl | assumption) : wpAny M A (storeName X.env x u) Q E s := by
  obtain ⟨m, hn, hl⟩ := id I.loc
  have hcls : (X.env.scope.kind == .class || (X.env.scope.kind == .module && X.env.locals != X.env.globals)) = false := by rw [I.ok.kind]; rfl
  have hiσ : i < σ.length := by rw [I.len]; exact (List.getElem?_eq_some_iff.mp hi).1
  have cne := I.cne
  have tracked : ∀ {a : Addr} {h' : Heap}, (∃ o, s.heap.get? a = some o ∧ H a = none) → Heap.SameBut a s.heap h' → HOk X.prog X.w H h' := fun {a h'} ha hs b ob e => by
    obtain ⟨_, _, hfree⟩ := ha
    refine (I.hok b ob e).stay (fun c w' hc q => (hs.2 c ?_).trans q) (fun _ q => q) fun _ _ q => q
    rintro rfl
    rcases hc with rfl | hc
    · rw [hfree] at e; cases e
    · rw [hfree] at hc; cases hc
  rcases hx with hk | hk
  · refine wpAny_storeName_local hk hn (fun h' hn' hs => ?_) hcls
    obtain ⟨oL, _, _, hoL, _⟩ := id hn
    refine h _ ⟨I.ok, I.os, I.bare, ⟨fun b o e n hb hx => ?_, fun b o e n hb hx => ?_, I.base.free, fun b o e hx => ?_, I.base.tups, I.base.frzs, I.base.tbls⟩, ⟨_, hn', fun j y v' e1 e2 e3 => ?_⟩, fun y c e => ?_, I.free, I.freeC, fun p hp => ?_, tracked ⟨oL, hoL, I.free⟩ hs, by simpa using I.len⟩ ⟨_, hs, .inl rfl⟩
    · exact (hs.2 b (Nat.ne_of_lt (Nat.lt_of_lt_of_le (Heap.lt_size e) I.ok.above))).trans (I.base.keep b o e n hb hx)
    · obtain ⟨sl, e1⟩ := I.base.slot b o e n hb hx
      exact ⟨sl, (hs.2 b (Nat.ne_of_lt (Nat.lt_of_lt_of_le (Heap.lt_size e) I.ok.above))).trans e1⟩
    · obtain ⟨o', e1⟩ := I.base.there b o e hx
      exact ⟨o', (hs.2 b (Nat.ne_of_lt (Nat.lt_of_lt_of_le (Heap.lt_size e) I.ok.above))).trans e1⟩
    · by_cases hj : j = i
      · subst hj
        rw [hi] at e1; cases e1
        rw [List.getElem?_set_self hiσ] at e2
        cases e2
        exact ⟨u, r, .inl ⟨hk, by simp⟩⟩
      · rw [List.getElem?_set_ne (Ne.symm hj)] at e2
        obtain ⟨u', r', q⟩ := hl j y v' e1 e2 e3
        refine ⟨u', r', ?_⟩
        rcases q with ⟨k, e⟩ | ⟨k, c, e, z⟩
        · refine .inl ⟨k, ?_⟩
          have : y ≠ x := fun e => hj (nodup_ix hN e1 (e ▸ hi))
          simp [this, e]
        · exact .inr ⟨k, c, e, z.sameBut hs (cne y c e)⟩
    · obtain ⟨w', z⟩ := I.cell y c e
      exact ⟨w', z.sameBut hs (cne y c e)⟩
    · obtain ⟨e, n, ne, nf, d⟩ := I.pin p hp
      exact ⟨(hs.2 p.1 ne).trans e, n, ne, nf, d⟩
  · have hfn : X.fn x = true := by
      rcases hf with z | z
      · exact z
      · rw [z] at hk; cases hk
    obtain ⟨c, hc⟩ := I.ok.has x (.inl hk)
    obtain ⟨w', z⟩ := I.cell x c hc
    refine wpAny_storeName_cell I.ok.kind hk hc z (fun h' hc' hs => ?_)
    obtain ⟨oc, hoc, hocd⟩ := id z
    refine h { s with heap := h' } ⟨I.ok, I.os, I.bare, ⟨fun b o e n hb hx => ?_, fun b o e n hb hx => ?_, I.base.free, fun b o e hx => ?_, I.base.tups, I.base.frzs, I.base.tbls⟩, ⟨m, hn.sameBut hs (Ne.symm (cne x c hc)), fun j y v' e1 e2 e3 => ?_⟩, fun y c' e => ?_, I.free, I.freeC, fun p hp => ?_, tracked ⟨oc, hoc, I.freeC x c hc⟩ hs, by simpa using I.len⟩ ⟨c, hs, .inr hc⟩
    · exact (hs.2 b (Nat.ne_of_lt (Nat.lt_of_lt_of_le (Heap.lt_size e) (I.ok.cab x c hfn hc)))).trans (I.base.keep b o e n hb hx)
    · obtain ⟨sl, e1⟩ := I.base.slot b o e n hb hx
      exact ⟨sl, (hs.2 b (Nat.ne_of_lt (Nat.lt_of_lt_of_le (Heap.lt_size e) (I.ok.cab x c hfn hc)))).trans e1⟩
    · obtain ⟨o', e1⟩ := I.base.there b o e hx
      exact ⟨o', (hs.2 b (Nat.ne_of_lt (Nat.lt_of_lt_of_le (Heap.lt_size e) (I.ok.cab x c hfn hc)))).trans e1⟩
    · by_cases hj : j = i
      · subst hj
        rw [hi] at e1; cases e1
        rw [List.getElem?_set_self hiσ] at e2
        cases e2
        exact ⟨u, r, .inr ⟨.inl hk, c, hc, hc'⟩⟩
      · rw [List.getElem?_set_ne (Ne.symm hj)] at e2
        obtain ⟨u', r', q⟩ := hl j y v' e1 e2 e3
        refine ⟨u', r', ?_⟩
        rcases q with q | ⟨k, c', e, z'⟩
        · exact .inl q
        · refine .inr ⟨k, c', e, z'.sameBut hs ?_⟩
          rintro rfl
          exact hj (nodup_ix hN e1 (I.ok.inj _ _ _ e hc ▸ hi))
    · by_cases hcc : c' = c
      · subst hcc; exact ⟨_, hc'⟩
      · obtain ⟨w2, z2⟩ := I.cell y c' e
        exact ⟨w2, z2.sameBut hs hcc⟩
    · obtain ⟨e, n, ne, nf, d⟩ := I.pin p hp
      refine ⟨(hs.2 p.1 ?_).trans e, n, ne, nf, d⟩
      intro q
      rw [q, hoc] at e
      have q' : oc = p.2 := Option.some.inj e
      exact d w' (by rw [← q']; exact hocd)
theorem store_ok {M : Model} {A : Around} {E : Value → Shared → Prop} {i : Nat} {x : Str} {v : V} {u : Value} {Q : Unit → Shared → Prop} (I : Inv X pins σ H s) (hN : X.N.Nodup) (hi : X.N[i]? = some x) (hx : Loc X.env.scope x) (r : RelV v u)
    (h : ∀ s', Inv X pins (σ.set i (some v)) H s' → Q () s') (hf : X.fn x = true ∨ X.env.scope.names.lookup x = some .local := by first | exact .inl rfl | exact .inr rfl | assumption) : wpAny M A (storeName X.env x u) Q E s :=
  store_ok2 I hN hi hx r (fun s' I' _ => h s' I') hf
theorem Inv.call' {s' : Shared} {ch : List Addr} (I : Inv X pins σ H s) (ho : s'.os = s.os) (u : Un (frs X.stack) ch H H' s.heap s'.heap) (hok : HOk X.prog X.w H' s'.heap) (hg : AllBare s'.gens)
    (hch : ∀ b ∈ ch, (b ∈ X.ex ∨ X.s₀.heap.objs.size ≤ b) ∧ b ≠ X.env.locals ∧ (∀ x c, X.env.cells.lookup x = some c → c ≠ b) ∧ ∀ p ∈ X.pn ++ pins, p.1 ≠ b) : Inv X pins σ H' s' := by
  obtain ⟨h', g', d', t', o'⟩ := s'
  have e : o' = s.os := ho
  subst e
  exact I.call (g' := g') (t' := t') (d' := d') u hok hg hch
end

abbrev XK := Value → Option Addr → Hp → Prop
abbrev St := List (Option V)
abbrev VK := V → Hp → Prop
abbrev TE := St → Hp → VK → Prop
abbrev TT := St → Hp → (Bool → Hp → Prop) → Prop
abbrev TA := St → Hp → (List V → Hp → Prop) → Prop
structure Ends where
  nx : St → Hp → Prop
  rt : VK
  bk : St → Hp → Prop := fun _ _ => False
  ct : St → Hp → Prop := fun _ _ => False
abbrev TS := Ends → St → Hp → Prop

def EP (X : Cx) (pins : List (Addr × Obj)) (σ : St) (Q : VK) (u : Value) (s' : Shared) : Prop := ∃ v H', Inv X pins σ H' s' ∧ RelV v u ∧ Q v H'
def TP (X : Cx) (pins : List (Addr × Obj)) (σ : St) (Q : Bool → Hp → Prop) (b : Bool) (s' : Shared) : Prop := ∃ H', Inv X pins σ H' s' ∧ Q b H'
def AP (X : Cx) (pins : List (Addr × Obj)) (σ : St) (Q : List V → Hp → Prop) (us : List Value) (s' : Shared) : Prop := ∃ vs H', Inv X pins σ H' s' ∧ Vals vs us ∧ Q vs H'
def SP (X : Cx) (pins : List (Addr × Obj)) (D : Ends) (f : Flow) (s' : Shared) : Prop :=
  match f with
  | .next => ∃ σ' H', Inv X pins σ' H' s' ∧ D.nx σ' H'
  | .brk => ∃ σ' H', Inv X pins σ' H' s' ∧ D.bk σ' H'
  | .cont => ∃ σ' H', Inv X pins σ' H' s' ∧ D.ct σ' H'
  | .ret u => ∃ v σ' H', Inv X pins σ' H' s' ∧ RelV v u ∧ D.rt v H'

def PE (X : Cx) (e : Expr) (t : TE) : Prop :=
  ∀ (pins : List (Addr × Obj)) (s : Shared) (σ : St) (H : Hp) (Q : VK), Inv X pins σ H s → t σ H Q → wpAny (model X.prog X.w) X.A (eval e X.env) (EP X pins σ Q) X.xe s
def PT (X : Cx) (e : Expr) (t : TT) : Prop :=
  ∀ (pins : List (Addr × Obj)) (s : Shared) (σ : St) (H : Hp) (Q : Bool → Hp → Prop), Inv X pins σ H s → t σ H Q → wpAny (model X.prog X.w) X.A (isTrue e X.env (eval e X.env)) (TP X pins σ Q) X.xe s
def PW (X : Cx) (e : Expr) (t : TT) : Prop :=
  ∀ (whole : Sem Value) (pins : List (Addr × Obj)) (s : Shared) (σ : St) (H : Hp) (Q : Bool → Hp → Prop), Inv X pins σ H s → t σ H Q → wpAny (model X.prog X.w) X.A (isTrue e X.env whole) (TP X pins σ Q) X.xe s
theorem PW.pt {X : Cx} {e : Expr} {t : TT} (h : PW X e t) : PT X e t := h _
def PA (X : Cx) (es : List Expr) (t : TA) : Prop :=
  ∀ (pos : Pos) (pins : List (Addr × Obj)) (s : Shared) (σ : St) (H : Hp) (Q : List V → Hp → Prop), Inv X pins σ H s → t σ H Q → wpAny (model X.prog X.w) X.A (spliced (backTo pos (starEach es X.env))) (AP X pins σ Q) X.xe s
def PS (X : Cx) (st : Stmt) (t : TS) : Prop :=
  ∀ (pins : List (Addr × Obj)) (s : Shared) (σ : St) (H : Hp) (D : Ends), Inv X pins σ H s → t D σ H → wpAny (model X.prog X.w) X.A (exec st X.env) (SP X pins D) X.xe s
def PSs (X : Cx) (st : List Stmt) (t : TS) : Prop :=
  ∀ (pins : List (Addr × Obj)) (s : Shared) (σ : St) (H : Hp) (D : Ends), Inv X pins σ H s → t D σ H → wpAny (model X.prog X.w) X.A (execs st X.env) (SP X pins D) X.xe s
theorem thn {α : Type} {t : Sem α} {Q Q' : α → Shared → Prop} {M : Model} {A : Around} {E : Value → Shared → Prop} {s : Shared} (h : wpAny M A t Q E s) (hQ : ∀ a s, Q a s → Q' a s) : wpAny M A t Q' E s := wpAny_mono h hQ fun _ _ x => x
end L2

namespace L2
open PySem PySem.Spec PyProof.Rows
section
variable {X : Cx}

theorem bin {a b : Expr} {ta tb : TE} (ha : PE X a ta) (hb : PE X b tb) {pins : List (Addr × Obj)} {s : Shared} {σ : St} {H : Hp} {R : V → V → Hp → Prop} (I : Inv X pins σ H s) (h : ta σ H fun x H1 => tb σ H1 fun y H2 => R x y H2)
    {α : Type} {Q : α → Shared → Prop} {f : Value → Value → Sem α}
    (hf : ∀ v u s2 x y H2, Inv X pins σ H2 s2 → RelV x v → RelV y u → R x y H2 → wpAny (model X.prog X.w) X.A (f v u) Q X.xe s2) :
    wpAny (model X.prog X.w) X.A (eval a X.env) (fun v s₁ => wpAny (model X.prog X.w) X.A (eval b X.env) (fun u s₂ => wpAny (model X.prog X.w) X.A (f v u) Q X.xe s₂) X.xe s₁) X.xe s := by
  refine thn (ha pins s σ H _ I h) fun v s1 ⟨x, H1, I1, r1, q1⟩ => ?_
  refine thn (hb pins s1 σ H1 _ I1 q1) fun u s2 ⟨y, H2, I2, r2, q2⟩ => ?_
  exact hf v u s2 x y H2 I2 r1 r2 q2

def tVar (i : Nat) : TE := fun σ H Q => ∃ v, σ[i]? = some (some v) ∧ Q v H
def tC (v : V) : TE := fun _ H Q => Q v H
theorem pe_var {i : Nat} {x : Str} {pos : Pos} (hN : X.N[i]? = some x) (hv : Vis X.env.scope x) (hd : (x == ("__debug__" : Str)) = false := by decide) (hcd : (x == ("__classdict__" : Str)) = false := by decide) : PE X (.Name x pos) (tVar i) := by
  intro pins s σ H Q I h
  obtain ⟨v, e, h⟩ := h
  obtain ⟨m, hn, hl⟩ := I.loc
  obtain ⟨u, r, l⟩ := hl i x v hN e hv
  have fin : EP X pins σ Q u s := ⟨v, H, I, r, h⟩
  rcases l with ⟨hk, hm⟩ | ⟨hk, c, hc, hcell⟩
  · exact wpAny_Name (wpAny_loadName_local I.ok.kind hk hn hm fin) hd
  · rcases hk with hk | hk
    · exact wpAny_Name (wpAny_loadName_cell I.ok.kind hk hc hcell fin) hd
    · exact wpAny_Name (wpAny_loadName_free I.ok.kind hk hc hcell fin hcd) hd
theorem pe_int {i j pos} : PE X (.Constant (.int i) j pos) (tC (.int i)) := fun _ _ _ H _ I h => wpAny_Constant_int ⟨.int i, H, I.tok _, ⟨_, rfl⟩, h⟩
theorem pe_bl {b j pos} : PE X (.Constant (.bool b) j pos) (tC (.bl b)) := fun _ _ _ H _ I h => Constant_bool ⟨.bl b, H, I, rfl, h⟩
theorem pe_non {j pos} : PE X (.Constant .none j pos) (tC .non) := fun _ _ _ H _ I h => Constant_none ⟨.non, H, I, rfl, h⟩
theorem pe_str {x j pos} : PE X (.Constant (.str x) j pos) (tC (.str x)) := fun _ _ _ H _ I h => Calls.Constant_str ⟨.str x, H, I.tok _, ⟨_, rfl⟩, h⟩

def Gl (X : Cx) (x : Str) : Prop := X.env.kindOf x = some .globalImplicit
theorem ld_glob {E : Value → Shared → Prop} {pins : List (Addr × Obj)} {s : Shared} {σ : St} {H : Hp} {x : Str} {u : Value} {pos : Pos} {Q : Value → Shared → Prop} (I : Inv X pins σ H s) (hg : Gl X x) (hm : X.mg x = some u) (h : Q u s)
    (hd : (x == ("__debug__" : Str)) = false := by decide) : wpAny (model X.prog X.w) X.A (eval (.Name x pos) X.env) Q E s :=
  Calls.Name_function_global I.ok.kind hg (Calls.loadGlobal_global (by rw [I.ok.glob]; exact I.mod.glob.keeps I.bk) hm h) hd
theorem ld_blt {E : Value → Shared → Prop} {pins : List (Addr × Obj)} {s : Shared} {σ : St} {H : Hp} {x : Str} {u : Value} {pos : Pos} {Q : Value → Shared → Prop} (I : Inv X pins σ H s) (hg : Gl X x) (hm : X.mg x = none) (hv : bootBuiltins x = some u) (h : Q u s)
    (hn : x ≠ "__name__" := by decide) (hd : (x == ("__debug__" : Str)) = false := by decide) : wpAny (model X.prog X.w) X.A (eval (.Name x pos) X.env) Q E s := by
  obtain ⟨mb, h1, h2⟩ := I.mod.blt
  exact Calls.Name_function_global I.ok.kind hg (Calls.loadGlobal_builtin (by rw [I.ok.glob]; exact I.mod.glob.keeps I.bk) hm (by rw [I.ok.blt]; exact h1.keeps I.bk) ((h2 x hn).trans hv) h) hd
theorem pe_glob {x : Str} {v : V} {u : Value} {pos : Pos} (hg : Gl X x) (hm : X.mg x = some u) (r : RelV v u) (hd : (x == ("__debug__" : Str)) = false := by decide) : PE X (.Name x pos) (tC v) :=
  fun _ _ _ H _ I h => ld_glob I hg hm ⟨v, H, I, r, h⟩ hd
theorem pe_bltn {x : Str} {v : V} {u : Value} {pos : Pos} (hg : Gl X x) (hm : X.mg x = none) (hv : bootBuiltins x = some u) (r : RelV v u) (hn : x ≠ "__name__" := by decide) (hd : (x == ("__debug__" : Str)) = false := by decide) : PE X (.Name x pos) (tC v) :=
  fun _ _ _ H _ I h => ld_blt I hg hm hv ⟨v, H, I, r, h⟩ hn hd

def t2I (ta tb : TE) (k : Int → Int → Hp → Prop) : St → Hp → Prop := fun σ H => ta σ H fun x H1 => tb σ H1 fun y H2 => ∃ i j, x = .int i ∧ y = .int j ∧ k i j H2
def tAdd (ta tb : TE) : TE := fun σ H Q => t2I ta tb (fun i j H2 => Q (.int (i + j)) H2) σ H
def tSub (ta tb : TE) : TE := fun σ H Q => t2I ta tb (fun i j H2 => Q (.int (i - j)) H2) σ H
def tMul (ta tb : TE) : TE := fun σ H Q => t2I ta tb (fun i j H2 => (-(2 ^ 64) < i ∧ i < 2 ^ 64) ∧ Q (.int (i * j)) H2) σ H
variable {a b : Expr} {ta tb : TE} {pos : Pos}
def PC (X : Cx) (op : CmpOp) (a b : Expr) (t : TE) : Prop :=
  ∀ (pins : List (Addr × Obj)) (s : Shared) (σ : St) (H : Hp) (Q : VK), Inv X pins σ H s → t σ H Q →
    wpAny (model X.prog X.w) X.A (eval a X.env) (fun v s₁ => wpAny (model X.prog X.w) X.A (eval b X.env) (fun u s₂ => wpAny (model X.prog X.w) X.A (compareOp op v u) (EP X pins σ Q) X.xe s₂) X.xe s₁) X.xe s
def tCmp (p : Int → Int → Bool) (ta tb : TE) : TE := fun σ H Q => t2I ta tb (fun i j H2 => Q (.bl (p i j)) H2) σ H
abbrev tLt : TE → TE → TE := tCmp fun i j => decide (i < j)
abbrev tLe : TE → TE → TE := tCmp fun i j => decide (i ≤ j)
abbrev tGt : TE → TE → TE := tCmp fun i j => decide (j < i)
abbrev tGe : TE → TE → TE := tCmp fun i j => decide (j ≤ i)
abbrev tEqI : TE → TE → TE := tCmp fun i j => decide (i = j)
abbrev tNeI : TE → TE → TE := tCmp fun i j => !decide (i = j)
def tIsN (ta : TE) : TE := fun σ H Q => ta σ H fun x H1 => Q (.bl (decide (x = .non))) H1
def tNotN (ta : TE) : TE := fun σ H Q => ta σ H fun x H1 => Q (.bl (!decide (x = .non))) H1
def tB (t : TE) : TT := fun σ H Q => t σ H fun x H1 => ∃ c, x = .bl c ∧ Q c H1
theorem pt_cmp {op : CmpOp} {t : TE} (h : PC X op a b t) (h1 : behindInMarks op b = false := by first | exact nobehind _ (by decide) (by decide) | rfl) : PT X (.Compare a [op] [b] pos) (tB t) := by
  intro pins s σ H Q I hw
  refine wpAny_isTrue_Compare1 (thn (h pins s σ H _ I hw) fun v s1 h1 => thn h1 fun u s2 h2 => thn h2 fun c s3 ⟨x, H1, I1, r1, q1⟩ => ?_) h1
  obtain ⟨d, rfl, q⟩ := q1
  cases r1
  exact wpAny_truthy_bool ⟨H1, I1, q⟩
variable {tA tB' : TT} {rest : List Expr}
def tAnd (t u : TT) : TT := fun σ H Q => t σ H fun c H1 => if c = true then u σ H1 Q else Q false H1
def tOr (t u : TT) : TT := fun σ H Q => t σ H fun c H1 => if c = true then Q true H1 else u σ H1 Q
def tNot (t : TT) : TT := fun σ H Q => t σ H fun c H1 => Q (!c) H1
theorem pw_and1 (ha : PT X a tA) : PW X (.BoolOp .And [a] pos) tA := by
  intro wh pins s σ H Q I h
  refine isTrue_and (thn (ha pins s σ H Q I h) fun c s1 e => ?_)
  cases c with
  | true => exact isTrue_and_nil e
  | false => exact e
theorem pw_or1 (ha : PT X a tA) : PW X (.BoolOp .Or [a] pos) tA := by
  intro wh pins s σ H Q I h
  refine isTrue_or (thn (ha pins s σ H Q I h) fun c s1 e => ?_)
  cases c with
  | false => exact isTrue_or_nil e
  | true => exact e
theorem pw_and (ha : PT X a tA) (hb : PW X (.BoolOp .And (b :: rest) pos) tB') : PW X (.BoolOp .And (a :: b :: rest) pos) (tAnd tA tB') := by
  intro wh pins s σ H Q I h
  refine isTrue_and (thn (ha pins s σ H _ I h) fun c s1 ⟨H1, I1, q1⟩ => ?_)
  cases c with
  | true => exact hb wh pins s1 σ H1 Q I1 q1
  | false => exact ⟨H1, I1, q1⟩
theorem pw_or (ha : PT X a tA) (hb : PW X (.BoolOp .Or (b :: rest) pos) tB') : PW X (.BoolOp .Or (a :: b :: rest) pos) (tOr tA tB') := by
  intro wh pins s σ H Q I h
  refine isTrue_or (thn (ha pins s σ H _ I h) fun c s1 ⟨H1, I1, q1⟩ => ?_)
  cases c with
  | true => exact ⟨H1, I1, q1⟩
  | false => exact hb wh pins s1 σ H1 Q I1 q1
theorem pt_not (ha : PT X a tA) : PT X (.UnaryOp .Not a pos) (tNot tA) := by
  intro pins s σ H Q I h
  exact isTrue_not (ha pins s σ H (fun c H1 => Q (!c) H1) I h)
def tAndV (ta tb : TE) : TE := fun σ H Q => ta σ H fun x H1 => ∃ c, x = .bl c ∧ if c = true then tb σ H1 Q else Q (.bl false) H1
def tOrV (ta tb : TE) : TE := fun σ H Q => ta σ H fun x H1 => ∃ c, x = .bl c ∧ if c = true then Q (.bl true) H1 else tb σ H1 Q
def tNotV (ta : TE) : TE := fun σ H Q => ta σ H fun x H1 => ∃ c, x = .bl c ∧ Q (.bl (!c)) H1
theorem pe_one {op} {t : TE} (h : PE X a t) : PE X (.BoolOp op [a] pos) t := fun pins s σ H Q I hw => BoolOp_one (h pins s σ H Q I hw)
theorem pe_and (ha : PE X a ta) (hb : PE X (.BoolOp .And (b :: rest) pos) tb) : PE X (.BoolOp .And (a :: b :: rest) pos) (tAndV ta tb) := by
  intro pins s σ H Q I h
  refine BoolOp_and (thn (ha pins s σ H _ I h) fun v s1 ⟨x, H1, I1, r1, q1⟩ => ?_)
  obtain ⟨c, rfl, q1⟩ := q1
  cases r1
  refine wpAny_truthy_bool ?_
  cases c with
  | true => exact hb pins s1 σ H1 Q I1 q1
  | false => exact ⟨.bl false, H1, I1, rfl, q1⟩
theorem pe_not (ha : PE X a ta) : PE X (.UnaryOp .Not a pos) (tNotV ta) := by
  intro pins s σ H Q I h
  refine UnaryOp_ (thn (ha pins s σ H _ I h) fun v s1 ⟨x, H1, I1, r1, q1⟩ => ?_)
  obtain ⟨c, rfl, q1⟩ := q1
  cases r1
  exact not_of (wpAny_truthy_bool ⟨.bl (!c), H1, I1, rfl, q1⟩)
def tIf (t : TT) (ta tb : TE) : TE := fun σ H Q => t σ H fun c H1 => if c = true then ta σ H1 Q else tb σ H1 Q
end
end L2

namespace L2
open PySem PySem.Spec PyProof.Rows

def SqL (K : PySem.W.Frag) (H : Hp) (a : Addr) (xs : List V) : Prop :=
  Rd H a (.lst xs) ∨
    ∃ (o : Obj) (its : Array Value) (n : Nat), K.lookup a = some o ∧ o.cls = .type "list" ∧ o.dict = none ∧ o.data = .seq its n ∧ its.size ≤ sizeLine ∧ Vals xs its.toList
def SqT (K : PySem.W.Frag) (H : Hp) (a : Addr) (xs : List V) : Prop :=
  Rd H a (.tup xs) ∨
    ∃ (o : Obj) (its : Array Value) (n : Nat), K.lookup a = some o ∧ o.cls = .type "tuple" ∧ o.data = .seq its n ∧ its.size ≤ sizeLine ∧ Vals xs its.toList
def absV : Value → Option V
  | .none => some .non
  | .bool b => some (.bl b)
  | .int i _ => some (.int i)
  | .str x _ => some (.str x)
  | .bytes b _ => some (.byt b)
  | .float b _ => some (.flt b)
  | .ref a => some (.ref a)
  | .type n => some (.ty n)
  | _ => none
theorem RelV.abs {x : V} {u : Value} (r : RelV x u) : absV u = some x := by
  cases x with
  | non => cases r; rfl
  | bl _ => cases r; rfl
  | int _ => obtain ⟨t, rfl⟩ := r; rfl
  | str _ => obtain ⟨t, rfl⟩ := r; rfl
  | byt _ => obtain ⟨t, rfl⟩ := r; rfl
  | flt _ => obtain ⟨t, rfl⟩ := r; rfl
  | ref _ => cases r; rfl
  | ty _ => cases r; rfl
theorem RelV.inj {x y : V} {u : Value} (r : RelV x u) (q : RelV y u) : x = y := Option.some.inj (r.abs.symm.trans q.abs)
theorem Vals.inj : ∀ {xs ys : List V} {us : List Value}, Vals xs us → Vals ys us → xs = ys
  | _, _, _, .nil, .nil => rfl
  | _, _, _, .cons r t, .cons r' t' => by rw [r.inj r', Vals.inj t t']
section
variable {X : Cx} {pins : List (Addr × Obj)} {σ : St} {H : Hp} {s : Shared} {a : Addr} {xs ys : List V}
theorem SqL.of {K : PySem.W.Frag} (h : H a = some (.lst xs)) : SqL K H a xs := .inl (.inl h)
theorem SqT.of {K : PySem.W.Frag} (h : H a = some (.tup xs)) : SqT K H a xs := .inl (.inl h)
theorem Inv.list (I : Inv X pins σ H s) (h : SqL X.K H a xs) : ∃ its : List Value, Vals xs its ∧ PlainL s.heap a its.toArray ∧ xs.length ≤ sizeLine := by
  rcases h with h | ⟨o, its, n, hk, hc, hd, hs, hz, r⟩
  · obtain ⟨z, its, n, r, e⟩ := h.ok I.hok
    exact ⟨its, r, ⟨_, n, e, rfl, rfl, rfl⟩, z⟩
  · refine ⟨its.toList, r, ⟨o, n, I.kIn a o hk, hc, hd, by simpa using hs⟩, ?_⟩
    have e := r.length
    simp only [Array.length_toList] at e
    omega
theorem Inv.tuple (I : Inv X pins σ H s) (h : SqT X.K H a xs) : ∃ its : List Value, Vals xs its ∧ IsTup s.heap a its.toArray ∧ xs.length ≤ sizeLine := by
  rcases h with h | ⟨o, its, n, hk, hc, hs, hz, r⟩
  · obtain ⟨z, its, r, p⟩ := h.ok I.hok
    exact ⟨its, r, p, z⟩
  · refine ⟨its.toList, r, ⟨o, I.kIn a o hk, hc, n, by simpa using hs⟩, ?_⟩
    have e := r.length
    simp only [Array.length_toList] at e
    omega
theorem Inv.list_inj (I : Inv X pins σ H s) (h : SqL X.K H a xs) (h' : SqL X.K H a ys) : xs = ys := by
  obtain ⟨its, r, ⟨o, n, e, _, _, d⟩, _⟩ := I.list h
  obtain ⟨its', r', ⟨o', n', e', _, _, d'⟩, _⟩ := I.list h'
  rw [e] at e'; cases e'
  rw [d] at d'
  injection d' with d1 _
  have : its = its' := by simpa using congrArg Array.toList d1
  subst this
  exact r.inj r'
end

abbrev Cx.wish (X : Cx) (E : Value → Shared → Prop) : Cx := { X with xe := E }
abbrev Cx.nox (X : Cx) : Cx := X.wish fun _ _ => False
theorem Cx.Ok.wish {X : Cx} (ok : X.Ok) (E : Value → Shared → Prop) : (X.wish E).Ok :=
  ⟨ok.mod, ok.kind, ok.glob, ok.blt, ok.above, ok.inj, ok.has, ok.cab, ok.hd, ok.frames, ok.stk, ok.exf, ok.bs, ok.bsz, ok.noex, ok.exfs, ok.funs, ok.frf⟩
theorem Cx.Ok.unwish {X : Cx} {E : Value → Shared → Prop} (ok : (X.wish E).Ok) : X.Ok :=
  ⟨ok.mod, ok.kind, ok.glob, ok.blt, ok.above, ok.inj, ok.has, ok.cab, ok.hd, ok.frames, ok.stk, ok.exf, ok.bs, ok.bsz, ok.noex, ok.exfs, ok.funs, ok.frf⟩
section
variable {X : Cx} {pins : List (Addr × Obj)} {σ : St} {H : Hp} {s : Shared} {E : Value → Shared → Prop}
theorem Inv.wish (I : Inv X pins σ H s) (E : Value → Shared → Prop) : Inv (X.wish E) pins σ H s := ⟨I.ok.wish E, I.os, I.bare, I.base, I.loc, I.cell, I.free, I.freeC, I.pin, I.hok, I.len⟩
theorem Inv.unwish (I : Inv (X.wish E) pins σ H s) : Inv X pins σ H s := ⟨I.ok.unwish, I.os, I.bare, I.base, I.loc, I.cell, I.free, I.freeC, I.pin, I.hok, I.len⟩
theorem SP.unwish {D : Ends} {f : Flow} {s' : Shared} (h : SP (X.wish E) pins D f s') : SP X pins D f s' := by
  cases f with
  | next => obtain ⟨σ', H', I, q⟩ := h; exact ⟨σ', H', I.unwish, q⟩
  | brk => obtain ⟨σ', H', I, q⟩ := h; exact ⟨σ', H', I.unwish, q⟩
  | cont => obtain ⟨σ', H', I, q⟩ := h; exact ⟨σ', H', I.unwish, q⟩
  | ret u => obtain ⟨v, σ', H', I, r, q⟩ := h; exact ⟨v, σ', H', I.unwish, r, q⟩
theorem PSs.nox {st : List Stmt} {t : TS} (h : PSs X.nox st t) : PSs X st t := fun pins s σ H D I hw =>
  wpAny_mono (h pins s σ H D (I.wish _) hw) (fun _ _ q => q.unwish) fun _ _ z => False.elim z
end

section
variable {X : Cx} {st : Stmt} {rest : List Stmt} {t u : TS} {e : Expr} {te : TE} {pos : Pos}
def tNext : TS := fun D σ H => D.nx σ H
def tSeq (t u : TS) : TS := fun D σ H => t { D with nx := u D } σ H
theorem pss_nil : PSs X [] tNext := fun _ _ σ H _ I h => wpAny_execs_nil ⟨σ, H, I, h⟩
theorem pss_one (h1 : PS X st t) : PSs X [st] t := by
  intro pins s σ H D I h
  refine wpAny_execs_cons (thn (h1 pins s σ H D I h) fun f s1 q => ?_)
  cases f with
  | next => exact wpAny_execs_nil q
  | ret v => exact q
  | brk => exact q
  | cont => exact q
def tBreak : TS := fun D σ H => D.bk σ H
def tCont : TS := fun D σ H => D.ct σ H
theorem ps_pass : PS X (.Pass pos) tNext := fun _ _ σ H _ I h => wpAny_Pass ⟨σ, H, I, h⟩
theorem Inv.quiet {pins : List (Addr × Obj)} {σ : St} {H : Hp} {s : Shared} (I : Inv X pins σ H s) : interactive X.env = false := by simp [interactive, I.ok.kind]
def tDrop (te : TE) : TS := fun D σ H => te σ H fun _ H1 => D.nx σ H1
theorem ps_expr (he : PE X e te) (hs : swapsWith e none pos.line X.env = pure false := by rfl) : PS X (.Expr e pos) (tDrop te) := by
  intro pins s σ H D I h
  exact wpAny_Expr_any (thn (he pins s σ H _ I h) fun v s1 ⟨x, H1, I1, r1, q1⟩ => ⟨σ, H1, I1, q1⟩) I.quiet hs
def tRet (te : TE) : TS := fun D σ H => te σ H D.rt
theorem ps_ret (he : PE X e te) : PS X (.Return (some e) pos) (tRet te) := by
  intro pins s σ H D I h
  exact wpAny_Return_some (thn (he pins s σ H _ I h) fun v s1 ⟨x, H1, I1, r1, q1⟩ => ⟨x, σ, H1, I1, r1, q1⟩)
def tRetN : TS := fun D _ H => D.rt .non H
def tIfS (c : TT) (t u : TS) : TS := fun D σ H => c σ H fun b H1 => if b = true then t D σ H1 else u D σ H1
theorem ps_if {c : Expr} {a b : List Stmt} {tc : TT} (hc : PT X c tc) (ha : PSs X a t) (hb : PSs X b u) : PS X (.If c a b pos) (tIfS tc t u) := by
  intro pins s σ H D I h
  refine wpAny_If (thn (hc pins s σ H _ I h) fun d s1 ⟨H1, I1, q1⟩ => ?_)
  cases d with
  | true => exact ha pins s1 σ H1 D I1 q1
  | false => exact hb pins s1 σ H1 D I1 q1
def tNever : TS := fun _ _ _ => False
end

abbrev TG := V → St → Hp → (St → Hp → Prop) → Prop
abbrev TGs := List V → St → Hp → (St → Hp → Prop) → Prop
def PG (X : Cx) (target : Expr) (t : TG) : Prop :=
  ∀ (pins : List (Addr × Obj)) (s : Shared) (σ : St) (H : Hp) (v : V) (u : Value) (Q : St → Hp → Prop), Inv X pins σ H s → RelV v u → t v σ H Q →
    wpAny (model X.prog X.w) X.A (assign target X.env u) (fun _ s' => ∃ σ' H', Inv X pins σ' H' s' ∧ Q σ' H') X.xe s
def PGs (X : Cx) (ts : List Expr) (t : TGs) : Prop :=
  ∀ (pins : List (Addr × Obj)) (s : Shared) (σ : St) (H : Hp) (vs : List V) (us : List Value) (Q : St → Hp → Prop), Inv X pins σ H s → Vals vs us → t vs σ H Q →
    wpAny (model X.prog X.w) X.A (assignInOrder ((assignEach ts X.env).map (·.2)) us) (fun _ s' => ∃ σ' H', Inv X pins σ' H' s' ∧ Q σ' H') X.xe s
abbrev TSet := V → V → V → Hp → (Hp → Prop) → Prop
def PSet (X : Cx) (t : TSet) : Prop :=
  ∀ (pins : List (Addr × Obj)) (s : Shared) (σ : St) (H : Hp) (o i v : V) (ov iv u : Value) (Q : Hp → Prop), Inv X pins σ H s → RelV o ov → RelV i iv → RelV v u → t o i v H Q →
    wpAny (model X.prog X.w) X.A (setItem ov iv u) (fun _ s' => ∃ H', Inv X pins σ H' s' ∧ Q H') X.xe s
abbrev TIp := V → V → Hp → VK → Prop
def PIp (X : Cx) (op : Operator) (t : TIp) : Prop :=
  ∀ (pins : List (Addr × Obj)) (s : Shared) (σ : St) (H : Hp) (x y : V) (v u : Value) (Q : VK), Inv X pins σ H s → RelV x v → RelV y u → t x y H Q →
    wpAny (model X.prog X.w) X.A (inplaceOp op v u) (EP X pins σ Q) X.xe s
section
variable {X : Cx} {pos : Pos}
def gName (i : Nat) : TG := fun v σ H Q => Q (σ.set i (some v)) H
theorem pg_name {i : Nat} {x : Str} (hN : X.N.Nodup) (hi : X.N[i]? = some x) (hx : Loc X.env.scope x) (hf : X.fn x = true ∨ X.env.scope.names.lookup x = some .local := by first | exact .inl rfl | exact .inr rfl | assumption) : PG X (.Name x pos) (gName i) := by
  intro pins s σ H v u Q I r h
  exact wpAny_assign_Name (store_ok I hN hi hx r (fun s' I' => ⟨_, H, I', h⟩) hf)
def gNil : TGs := fun vs σ H Q => vs = [] ∧ Q σ H
def gCons (t : TG) (u : TGs) : TGs := fun vs σ H Q => ∃ v r, vs = v :: r ∧ t v σ H fun σ' H' => u r σ' H' Q
theorem pgs_nil : PGs X [] gNil := by
  intro pins s σ H vs us Q I r h
  obtain ⟨e, h⟩ := h
  subst e
  cases r
  exact assignInOrder_nil ⟨σ, H, I, h⟩
theorem pgs_cons {e : Expr} {es : List Expr} {t : TG} {u : TGs} (h1 : PG X e t) (h2 : PGs X es u)
    (hs : (assignEach (e :: es) X.env).map (·.2) = assign e X.env :: (assignEach es X.env).map (·.2) := by rfl) : PGs X (e :: es) (gCons t u) := by
  intro pins s σ H vs us Q I r h
  obtain ⟨v, vr, e1, h⟩ := h
  subst e1
  cases r with
  | cons r rr =>
    rw [hs]
    refine assignInOrder_cons (thn (h1 pins s σ H _ _ _ I r h) fun _ s1 ⟨σ1, H1, I1, q1⟩ => ?_)
    exact h2 pins s1 σ1 H1 _ _ Q I1 rr q1
def gTup (K : PySem.W.Frag) (n : Nat) (t : TGs) : TG := fun v σ H Q => ∃ a xs, v = .ref a ∧ SqT K H a xs ∧ xs.length = n ∧ t xs σ H Q
theorem pg_tup {es : List Expr} {k : Nat} {t : TGs} {n : Nat} (hc : X.calm = true) (h : PGs X es t)
    (hn : (assignEach es X.env).length = n := by rfl) (hst : (assignEach es X.env).findIdx? (·.1) = none := by rfl) : PG X (.Tuple es k pos) (gTup X.K n t) := by
  intro pins s σ H v u Q I r hw
  obtain ⟨a, xs, e1, hq, hl, hw⟩ := hw
  subst e1
  cases r
  obtain ⟨its, rv, ht, hz⟩ := I.tuple hq
  refine assign_Tuple_tuple (I.ok.hd hc) ht (by simp [hn, ← hl, rv.length]) hst fun h' hx => ?_
  have I1 : Inv X pins σ H { s with heap := h' } := I.kept (t' := s.toks) fun b o e => hx b o (Nat.ne_of_lt (Heap.lt_size e)) e
  exact h pins _ σ H xs _ Q I1 (by simpa using rv) hw
def gSub (to ti : TE) (t : TSet) : TG := fun v σ H Q => to σ H fun o H1 => ti σ H1 fun i H2 => t o i v H2 fun H3 => Q σ H3
def tAsg (te : TE) (g : TG) : TS := fun D σ H => te σ H fun x H1 => g x σ H1 D.nx
theorem ps_asg {tg e : Expr} {te : TE} {g : TG} (he : PE X e te) (hg : PG X tg g) (hs : swapsWithSole [tg] e pos.line X.env = pure false := by rfl) (hw : swappedStores [tg] e X.env = pure none := by rfl)
    (h1 : (assignEach [tg] X.env).map (·.2) = [assign tg X.env] := by rfl) : PS X (.Assign [tg] e pos) (tAsg te g) := by
  intro pins s σ H D I h
  refine wpAny_Assign_stores (thn (he pins s σ H _ I h) fun v s1 ⟨x, H1, I1, r1, q1⟩ => ?_) hs hw
  rw [h1]
  exact thn (hg pins s1 σ H1 x v _ I1 r1 q1) fun _ s2 q => q
theorem ps_set {i : Nat} {x : Str} {e : Expr} {te : TE} {pos' : Pos} (hN : X.N.Nodup) (hi : X.N[i]? = some x) (hx : Loc X.env.scope x) (he : PE X e te) (hs : swapsWith e (some (.Name x pos')) pos.line X.env = pure false := by rfl) (hf : X.fn x = true ∨ X.env.scope.names.lookup x = some .local := by first | exact .inl rfl | exact .inr rfl | assumption) :
    PS X (.Assign [.Name x pos'] e pos) (tAsg te (gName i)) := by
  intro pins s σ H D I h
  refine wpAny_Assign_Name (thn (he pins s σ H _ I h) fun v s1 ⟨y, H1, I1, r1, q1⟩ => ?_) hs
  exact store_ok I1 hN hi hx r1 (fun s2 I2 => ⟨_, H1, I2, q1⟩) hf
def tPar (i j : Nat) (ta : TA) : TS := fun D σ H => ta σ H fun vs H1 => ∃ v w, vs = [v, w] ∧ D.nx ((σ.set i (some v)).set j (some w)) H1
def tAug (i : Nat) (te : TE) (ti : TIp) : TS := fun D σ H => ∃ x, σ[i]? = some (some x) ∧ te σ H fun y H1 => ti x y H1 fun z H2 => D.nx (σ.set i (some z)) H2
def tAugS (to ti te : TE) (tget : V → V → Hp → VK → Prop) (tip : TIp) (tset : TSet) : TS := fun D σ H => to σ H fun o H1 => ti σ H1 fun i H2 => tget o i H2 fun x H3 => te σ H3 fun y H4 => tip x y H4 fun z H5 => tset o i z H5 fun H6 => D.nx σ H6
def PGet (X : Cx) (t : V → V → Hp → VK → Prop) : Prop :=
  ∀ (pins : List (Addr × Obj)) (s : Shared) (σ : St) (H : Hp) (o i : V) (ov iv : Value) (Q : VK), Inv X pins σ H s → RelV o ov → RelV i iv → t o i H Q →
    wpAny (model X.prog X.w) X.A (getItem ov iv) (EP X pins σ Q) X.xe s
def ipI (f : Int → Int → Int) : TIp := fun x y H Q => ∃ i j, x = .int i ∧ y = .int j ∧ Q (.int (f i j)) H
end

section
variable {X : Cx} {pos : Pos}
def tWhile (c : TT) (tb : TS) : TS := fun D σ H => ∃ W : Nat → St → Hp → Prop, (∃ m, W m σ H) ∧ ∀ m σ H, W m σ H →
  c σ H fun b H1 => if b = true then ∃ N : St → Hp → Prop, (∀ σ' H', N σ' H' → ∃ m', m' < m ∧ W m' σ' H') ∧ tb { D with nx := N, ct := N, bk := D.nx } σ H1 else D.nx σ H1
end

structure It where
  go : Nat → Hp → Prop
  yld : Nat → Hp → V → Hp → Prop
  stop : Nat → Hp → Prop
def FpOk (X : Cx) (pins : List (Addr × Obj)) (H : Hp) (b : Addr) : Prop :=
  H b = none ∧ b ≠ X.env.locals ∧ b ∉ X.fs ∧ (b ∈ X.ex ∨ X.s₀.heap.objs.size ≤ b) ∧ (∀ x c, X.env.cells.lookup x = some c → c ≠ b) ∧ ∀ p ∈ X.pn ++ pins, p.1 ≠ b
theorem Inv.fpOk {X : Cx} {pins : List (Addr × Obj)} {σ : St} {H H' : Hp} {s : Shared} {b : Addr} (I : Inv X pins σ H s) (hb : s.heap.objs.size ≤ b) (hn : H' b = none) : FpOk X pins H' b := by
  refine ⟨hn, Nat.ne_of_gt (Nat.lt_of_lt_of_le I.lt hb), I.nofs hb, .inr (Nat.le_trans I.sz hb), fun x c e z => ?_, fun p hp z => ?_⟩
  · obtain ⟨v, q⟩ := I.cell x c e
    exact absurd (Nat.lt_of_lt_of_le q.lt (by rw [z]; exact hb)) (Nat.lt_irrefl _)
  · exact absurd (Nat.lt_of_lt_of_le (Heap.lt_size (I.pin p hp).1) (by rw [z]; exact hb)) (Nat.lt_irrefl _)
structure Turn (P : Program) (w : World) (K : PySem.W.Frag) (tg : Expr) (J : It) (fp : List Addr) (it : Addr) (tn : Nat → Heap → Prop) : Prop where
  mem : it ∈ fp
  obj : ∀ i h, tn i h → ∀ b ∈ fp, ∃ o, h.get? b = some o ∧ ∀ v, o.data ≠ .cell v
  keep : ∀ i h h', tn i h → (∀ b ∈ fp, ∀ o, h.get? b = some o → h'.get? b = some o) → tn i h'
  item : ∀ (X : Cx), X.prog = P → X.w = w → X.K = K → X.calm = true → ∀ (i : Nat) (pins : List (Addr × Obj)) (s : Shared) (σ : St) (H : Hp) (E : Value → Shared → Prop), Inv X pins σ H s → (∀ b ∈ fp, FpOk X pins H b) → tn i s.heap → J.go i H →
    wpAny (model P w) X.A (pyNext (.ref it)) (fun r s1 => ∃ u, r = some u ∧
      wpAny (model P w) X.A (letOwnedTupleGo tg (.ref it) u) (fun _ s2 => ∃ x H', Inv X pins σ H' s2 ∧ RelV x u ∧ J.yld i H x H' ∧ tn (i + 1) s2.heap ∧ ∀ b ∈ fp, H' b = none) E s1) E s
  done : ∀ (X : Cx), X.prog = P → X.w = w → X.K = K → X.calm = true → ∀ (i : Nat) (pins : List (Addr × Obj)) (s : Shared) (σ : St) (H : Hp) (E : Value → Shared → Prop), Inv X pins σ H s → (∀ b ∈ fp, FpOk X pins H b) → tn i s.heap → J.stop i H →
    wpAny (model P w) X.A (pyNext (.ref it)) (fun r s1 => r = none ∧ Inv X pins σ H s1) E s
  self : ∀ (A : Around) (i : Nat) (s : Shared) (Q : Value → Shared → Prop) (E : Value → Shared → Prop), tn i s.heap → Q (.ref it) s → wpAny (model P w) A (pyIter (.ref it)) Q E s
abbrev TI := St → Hp → (It → Hp → Prop) → Prop
def PIE (X : Cx) (pins : List (Addr × Obj)) (σ : St) (tg : Expr) (R : It → Hp → Prop) (itv : Value) (s2 : Shared) : Prop :=
  ∃ (it : Addr) (fp : List Addr) (tn : Nat → Heap → Prop) (J : It) (H' : Hp), itv = .ref it ∧ Inv X pins σ H' s2 ∧ Turn X.prog X.w X.K tg J fp it tn ∧ tn 0 s2.heap ∧ (∀ b ∈ fp, FpOk X pins H' b) ∧ R J H'
def PI (X : Cx) (tg iter : Expr) (wi : TI) : Prop :=
  ∀ (pins : List (Addr × Obj)) (s : Shared) (σ : St) (H : Hp) (R : It → Hp → Prop), Inv X pins σ H s → wi σ H R →
    wpAny (model X.prog X.w) X.A (eval iter X.env) (fun v s1 => wpAny (model X.prog X.w) X.A (pyIter v) (PIE X pins σ tg R) X.xe s1) X.xe s

theorem go_of {M : Model} {A : Around} {E : Value → Shared → Prop} {s : Shared} {tg : Expr} {it : Addr} {u : Value} {o : Obj} {n : String} {vs : Array Value} {Q : Unit → Shared → Prop} (ho : s.heap.get? it = some o) (hc : o.cls = .type n) (hd : o.data = .fields vs)
    (hn : ["enumerate", "zip", "dict_itemiterator", "dict_reverseitemiterator", "odict_iterator", "itertools.zip_longest", "itertools.pairwise"].contains n = false) (hQ : Q () s) : wpAny M A (letOwnedTupleGo tg (.ref it) u) Q E s := by
  unfold letOwnedTupleGo
  cases tg <;> first
    | exact wpAny_pure hQ
    | (cases u <;> first
        | exact wpAny_pure hQ
        | (refine wpAny_bind (wpAny_load ho ?_)
           rw [hc, hd]
           show wpAny M A (if (["enumerate", "zip", "dict_itemiterator", "dict_reverseitemiterator", "odict_iterator", "itertools.zip_longest", "itertools.pairwise"].contains n && vs[0]? == some (rawInt _)) = true then _ else _) Q E s
           rw [if_neg (by intro h; rw [hn, Bool.false_and] at h; cases h)]
           exact wpAny_pure hQ))

def Itl (K : PySem.W.Frag) (a : Addr) : It :=
  ⟨fun i H => ∃ xs x, SqL K H a xs ∧ xs[i]? = some x, fun i H x H' => H' = H ∧ ∀ xs, SqL K H a xs → xs[i]? = some x, fun i H => ∃ xs, SqL K H a xs ∧ xs.length ≤ i⟩
def Itt (K : PySem.W.Frag) (a : Addr) : It :=
  ⟨fun i H => ∃ xs x, SqT K H a xs ∧ xs[i]? = some x, fun i H x H' => H' = H ∧ ∀ xs, SqT K H a xs → xs[i]? = some x, fun i H => ∃ xs, SqT K H a xs ∧ xs.length ≤ i⟩
def Itr (lo : Int) (n : Nat) : It := ⟨fun i _ => i < n, fun i H x H' => H' = H ∧ x = .int (lo + i), fun i _ => n ≤ i⟩
theorem turn_list {P : Program} {w : World} {K : PySem.W.Frag} {tg : Expr} (a it : Addr) : Turn P w K tg (Itl K a) [it] it (fun i h => h.IsListIter it a i) where
  mem := by simp
  obj := fun i h st b hb => by
    have e : b = it := by simpa using hb
    subst e
    obtain ⟨o, e, c, d⟩ := st
    exact ⟨o, e, fun v z => by rw [d] at z; cases z⟩
  keep := fun i h h' st k => st.at fun o e => k it (by simp) o e
  item := by
    intro X hP hw hK hc i pins s σ H E I hf st hg
    subst hP hw hK
    obtain ⟨xs, x, hq, hx⟩ := hg
    obtain ⟨its, rv, p, hz⟩ := I.list hq
    obtain ⟨u, hu, ru⟩ := rv.get hx
    obtain ⟨f0, f1, f2, f3, f4, f5⟩ := hf it (by simp)
    refine wpAny_pyNext_list_item st p.isList (x := u) (by simpa using hu) fun h' st' sb => ?_
    have I1 : Inv X pins σ H { s with heap := h' } := I.turned (t' := s.toks) (fun b o hb e => (sb.2 b hb).trans e) f0 f1 f3 f4 f5
    obtain ⟨o, e, c, d⟩ := id st'
    exact ⟨u, rfl, go_of (s := { s with heap := h' }) e c d (by decide) ⟨x, H, I1, ru, ⟨rfl, fun ys hy => by rw [I.list_inj hy hq]; exact hx⟩, st', fun b hb => (hf b hb).1⟩⟩
  done := by
    intro X hP hw hK hc i pins s σ H E I hf st hg
    subst hP hw hK
    obtain ⟨xs, hq, hx⟩ := hg
    obtain ⟨its, rv, p, hz⟩ := I.list hq
    obtain ⟨f0, f1, f2, f3, f4, f5⟩ := hf it (by simp)
    have hl := rv.length
    exact wpAny_pyNext_list_end (I.ok.hd hc) st p.isList (by simp; omega) fun h' eb => ⟨rfl, I.turned (t' := s.toks) (fun b o hb e => eb b o hb e) f0 f1 f3 f4 f5⟩
  self := fun _ _ _ _ _ st h => wpAny_pyIter_listiter st h
end L2

namespace L2
open PySem PySem.Spec PyProof.Rows
section
variable {X : Cx} {tg : Expr}
def iList (K : PySem.W.Frag) (tl : TE) : TI := fun σ H R => tl σ H fun x H1 => ∃ a, x = .ref a ∧ (∃ xs, SqL K H1 a xs) ∧ R (Itl K a) H1
def iTup (K : PySem.W.Frag) (tl : TE) : TI := fun σ H R => tl σ H fun x H1 => ∃ a, x = .ref a ∧ (∃ xs, SqT K H1 a xs) ∧ R (Itt K a) H1
theorem pi_list {l : Expr} {tl : TE} (hl : PE X l tl) : PI X tg l (iList X.K tl) := by
  intro pins s σ H R I h
  refine thn (hl pins s σ H _ I h) fun v s1 ⟨x, H1, I1, r1, q1⟩ => ?_
  obtain ⟨a, e, ⟨xs, hq⟩, q⟩ := q1
  subst e
  cases r1
  obtain ⟨its, rv, p, hz⟩ := I1.list hq
  refine wpAny_pyIter_list p.isList ?_
  refine ⟨s1.heap.objs.size, [s1.heap.objs.size], _, _, H1, rfl, I1.kept (t' := s1.toks) fun b o e => Heap.get?_push_of_some _ e, turn_list a _, ⟨_, Heap.get?_push_size _ rfl, rfl, rfl⟩, fun b hb => ?_, q⟩
  have e : b = s1.heap.objs.size := by simpa using hb
  subst e
  exact I1.fpOk (Nat.le_refl _) (I1.hok.fresh (Nat.le_refl _))
def iRng1 (ta : TA) : TI := fun σ H R => ta σ H fun vs H1 => ∃ j : Int, vs = [.int j] ∧ -(2 ^ 62) ≤ j ∧ j < 2 ^ 62 ∧ R (Itr 0 j.toNat) H1
def iRng2 (ta : TA) : TI := fun σ H R => ta σ H fun vs H1 => ∃ i j : Int, vs = [.int i, .int j] ∧ (-(2 ^ 62) ≤ i ∧ i < 2 ^ 62 ∧ -(2 ^ 62) ≤ j ∧ j < 2 ^ 62) ∧ R (Itr i (j - i).toNat) H1
def tFor (wi : TI) (g : TG) (tb : TS) : TS := fun D σ H => wi σ H fun J H1 => ∃ W : Nat → Nat → St → Hp → Prop, (∃ m, W 0 m σ H1) ∧ ∀ i m σ H, W i m σ H →
  (J.stop i H ∧ D.nx σ H) ∨ (J.go i H ∧ ∃ N : St → Hp → Prop, (∀ σ' H', N σ' H' → ∃ m', m' < m ∧ W (i + 1) m' σ' H') ∧ ∀ x H', J.yld i H x H' → g x σ H' fun σ2 H2 => tb { D with nx := N, ct := N, bk := D.nx } σ2 H2)
def pinsAt (fp : List Addr) (h : Heap) : List (Addr × Obj) := fp.filterMap fun b => (h.get? b).map fun o => (b, o)
theorem mem_pinsAt {fp : List Addr} {h : Heap} {b : Addr} {o : Obj} (hb : b ∈ fp) (e : h.get? b = some o) : (b, o) ∈ pinsAt fp h := List.mem_filterMap.mpr ⟨b, hb, by rw [e]; rfl⟩
theorem of_pinsAt {fp : List Addr} {h : Heap} {p : Addr × Obj} (hp : p ∈ pinsAt fp h) : p.1 ∈ fp ∧ h.get? p.1 = some p.2 := by
  obtain ⟨b, hb, e⟩ := List.mem_filterMap.mp hp
  cases q : h.get? b with
  | none => rw [q] at e; cases e
  | some o =>
    rw [q] at e
    have e' : (b, o) = p := Option.some.inj e
    subst e'
    exact ⟨hb, q⟩
theorem Inv.pinned {pins : List (Addr × Obj)} {σ : St} {H : Hp} {s : Shared} {fp : List Addr} (I : Inv X pins σ H s) (hf : ∀ b ∈ fp, FpOk X pins H b) (ho : ∀ b ∈ fp, ∃ o, s.heap.get? b = some o ∧ ∀ v, o.data ≠ .cell v) : Inv X (pins ++ pinsAt fp s.heap) σ H s :=
  I.pins_of fun p hp => (List.mem_append.mp hp).elim (fun z => I.pin p (List.mem_append_right _ z)) fun z => by
    obtain ⟨hb, e⟩ := of_pinsAt z
    obtain ⟨f0, f1, f2, _⟩ := hf p.1 hb
    obtain ⟨o, e', d⟩ := ho p.1 hb
    rw [e] at e'; cases e'
    exact ⟨e, f0, f1, f2, d⟩
theorem Inv.unpinned {pins pl : List (Addr × Obj)} {σ : St} {H : Hp} {s : Shared} (I : Inv X (pins ++ pl) σ H s) : Inv X pins σ H s := I.pins_of fun p hp => I.pin p (List.mem_append_right _ (List.mem_append_left _ hp))
theorem ps_for {iter : Expr} {body : List Stmt} {wi : TI} {g : TG} {tb : TS} {pos : Pos} (hp : PassesOwn (model X.prog X.w) X.A X.env X.xe) (hc : X.calm = true) (hi : PI X tg iter wi) (hg : PG X tg g) (hb : PSs X body tb)
    (hs : ∀ x, foldedSetIterable iter X.env x = pure x := by intro _; rfl) : PS X (.For tg iter body [] pos) (tFor wi g tb) := by
  intro pins s σ H D I h
  refine wpAny_For (thn (hi pins s σ H _ I h) fun v s1 h1 => thn h1 fun itv s2 h2 => ?_) hs
  obtain ⟨it, fp, tn, J, H2, e, I2, T, st2, f2, W, ⟨m0, w0⟩, turn⟩ := h2
  subst e
  -- what stays true of the iterator's objects through the loop
  have stat : ∀ {H' : Hp}, (∀ b ∈ fp, H' b = none) → ∀ b ∈ fp, FpOk X pins H' b := fun hn b hb => ⟨hn b hb, (f2 b hb).2⟩
  refine codeAny_forLoop_any (fun n s' => ∃ i σ' H', Inv X pins σ' H' s' ∧ tn i s'.heap ∧ (∀ b ∈ fp, H' b = none) ∧ W i n σ' H') ?_ m0 ⟨0, σ, H2, I2, st2, fun b hb => (f2 b hb).1, w0⟩
  rintro n s3 ⟨i, σ3, H3, I3, st3, fr3, w3⟩
  rcases turn i n σ3 H3 w3 with ⟨stop, qn⟩ | ⟨go, N, hN, step⟩
  · refine wpAny_passesOwn hp (thn (T.done X rfl rfl rfl hc i pins s3 σ3 H3 X.xe I3 (stat fr3) st3 stop) fun r s4 ⟨hr, I4⟩ => ?_)
    subst hr
    exact wpAny_execs_nil ⟨σ3, H3, I4, qn⟩
  · refine wpAny_passesOwn hp (thn (T.item X rfl rfl rfl hc i pins s3 σ3 H3 X.xe I3 (stat fr3) st3 go) fun r s4 ⟨u, hr, h4⟩ => ?_)
    subst hr
    refine wpAny_passesOwn hp (thn h4 fun _ s5 ⟨x, H5, I5, r5, y5, st5, fr5⟩ => ?_)
    have I5' := I5.pinned (stat fr5) (T.obj _ _ st5)
    refine wpAny_passesOwn hp (thn (hg _ s5 σ3 H5 x u _ I5' r5 (step x H5 y5)) fun _ s6 ⟨σ6, H6, I6, q6⟩ => ?_)
    refine wpAny_passesOwn hp (thn (hb _ s6 σ6 H6 _ I6 q6) fun f s7 q7 => ?_)
    have again : ∀ {σ7 : St} {H7 : Hp}, Inv X (pins ++ pinsAt fp s5.heap) σ7 H7 s7 → N σ7 H7 → ∃ m, m < n ∧ ∃ i σ' H', Inv X pins σ' H' s7 ∧ tn i s7.heap ∧ (∀ b ∈ fp, H' b = none) ∧ W i m σ' H' := fun {σ7 H7} I7 n7 => by
      obtain ⟨m', hm, w7⟩ := hN σ7 H7 n7
      refine ⟨m', hm, i + 1, σ7, H7, I7.unpinned, T.keep _ _ _ st5 fun b hb o e => (I7.pin (b, o) (List.mem_append_right _ (List.mem_append_right _ (mem_pinsAt hb e)))).1, fun b hb => ?_, w7⟩
      obtain ⟨o, e, d⟩ := T.obj _ _ st5 b hb
      exact (I7.pin (b, o) (List.mem_append_right _ (List.mem_append_right _ (mem_pinsAt hb e)))).2.1
    cases f with
    | next => obtain ⟨σ7, H7, I7, n7⟩ := q7; exact again I7 n7
    | cont => obtain ⟨σ7, H7, I7, n7⟩ := q7; exact again I7 n7
    | brk => obtain ⟨σ7, H7, I7, q7⟩ := q7; exact ⟨σ7, H7, I7.unpinned, q7⟩
    | ret v => obtain ⟨x7, σ7, H7, I7, r7, q7⟩ := q7; exact ⟨x7, σ7, H7, I7.unpinned, r7, q7⟩
end

theorem for_list {K : PySem.W.Frag} {a : Addr} {xs : List V} {g : TG} {tb : TS} {D : Ends} {σ : St} {H : Hp} (Pv : Nat → St → Hp → Prop) (h0 : Pv 0 σ H) (hl : ∀ i σ H, i ≤ xs.length → Pv i σ H → SqL K H a xs)
    (hs : ∀ i x σ H, xs[i]? = some x → Pv i σ H → g x σ H fun σ2 H2 => tb { D with nx := Pv (i + 1), ct := Pv (i + 1), bk := D.nx } σ2 H2) (hd : ∀ σ H, Pv xs.length σ H → D.nx σ H) :
    ∃ W : Nat → Nat → St → Hp → Prop, (∃ m, W 0 m σ H) ∧ ∀ i m σ H, W i m σ H →
      ((Itl K a).stop i H ∧ D.nx σ H) ∨ ((Itl K a).go i H ∧ ∃ N : St → Hp → Prop, (∀ σ' H', N σ' H' → ∃ m', m' < m ∧ W (i + 1) m' σ' H') ∧ ∀ x H', (Itl K a).yld i H x H' → g x σ H' fun σ2 H2 => tb { D with nx := N, ct := N, bk := D.nx } σ2 H2) := by
  refine ⟨fun i m σ H => m = xs.length - i ∧ i ≤ xs.length ∧ Pv i σ H, ⟨xs.length, by simp, Nat.zero_le _, h0⟩, ?_⟩
  rintro i m σ H ⟨rfl, hi, p⟩
  have q := hl i σ H hi p
  by_cases hlt : i < xs.length
  · refine .inr ⟨⟨xs, xs[i], q, by simp [hlt]⟩, Pv (i + 1), fun σ' H' p' => ⟨xs.length - (i + 1), by omega, rfl, hlt, p'⟩, fun x H' y => ?_⟩
    obtain ⟨e, y⟩ := y
    subst e
    exact hs i x σ _ (y xs q) p
  · have e : i = xs.length := by omega
    subst e
    exact .inl ⟨⟨xs, q, Nat.le_refl _⟩, hd σ H p⟩
end L2

namespace L2
open PySem PySem.Spec PyProof.Rows

abbrev R2 := V → V → Hp → VK → Prop
def OpR (X : Cx) (f : Value → Value → Sem Value) (r : R2) : Prop :=
  ∀ (pins : List (Addr × Obj)) (s : Shared) (σ : St) (H : Hp) (x y : V) (v u : Value) (Q : VK), Inv X pins σ H s → RelV x v → RelV y u → r x y H Q →
    wpAny (model X.prog X.w) X.A (f v u) (EP X pins σ Q) X.xe s
def UnR (X : Cx) (f : Value → Sem Value) (r : V → Hp → VK → Prop) : Prop :=
  ∀ (pins : List (Addr × Obj)) (s : Shared) (σ : St) (H : Hp) (x : V) (v : Value) (Q : VK), Inv X pins σ H s → RelV x v → r x H Q →
    wpAny (model X.prog X.w) X.A (f v) (EP X pins σ Q) X.xe s
def CallR (X : Cx) (f : Value) (r : List V → Hp → VK → Prop) : Prop :=
  ∀ (pins : List (Addr × Obj)) (s : Shared) (σ : St) (H : Hp) (xs : List V) (us : List Value) (Q : VK), Inv X pins σ H s → Vals xs us → r xs H Q →
    wpAny (model X.prog X.w) X.A (call f us) (EP X pins σ Q) X.xe s
def TruR (X : Cx) (r : V → Hp → (Bool → Hp → Prop) → Prop) : Prop :=
  ∀ (pins : List (Addr × Obj)) (s : Shared) (σ : St) (H : Hp) (x : V) (v : Value) (Q : Bool → Hp → Prop), Inv X pins σ H s → RelV x v → r x H Q →
    wpAny (model X.prog X.w) X.A (truthy v) (TP X pins σ Q) X.xe s

def tOp (r : R2) (ta tb : TE) : TE := fun σ H Q => ta σ H fun x H1 => tb σ H1 fun y H2 => r x y H2 Q
def tUn (r : V → Hp → VK → Prop) (ta : TE) : TE := fun σ H Q => ta σ H fun x H1 => r x H1 Q
def rI (C : Int → Int → Prop) (g : Int → Int → V) : R2 := fun x y H Q => ∃ i j, x = .int i ∧ y = .int j ∧ C i j ∧ Q (g i j) H
def rI0 (g : Int → Int → V) : R2 := fun x y H Q => ∃ i j, x = .int i ∧ y = .int j ∧ Q (g i j) H
def rU (g : Int → V) : V → Hp → VK → Prop := fun x H Q => ∃ i, x = .int i ∧ Q (g i) H

section
variable {X : Cx} {a b c : Expr} {ta tb tc : TE} {pos : Pos}

theorem binT (ha : PE X a ta) (hb : PE X b tb) {pins : List (Addr × Obj)} {s : Shared} {σ : St} {H : Hp} {R : V → V → Hp → Prop} (I : Inv X pins σ H s)
    (h : ta σ H fun x H1 => tb σ H1 fun y H2 => R x y H2) {Q : Value → Shared → Prop} {f : Value → Value → Sem Value}
    (hf : ∀ v u s2 x y H2, Inv X pins σ H2 s2 → RelV x v → RelV y u → R x y H2 → wpAny (model X.prog X.w) X.A (f v u) Q X.xe s2) :
    wpAny (model X.prog X.w) X.A (eval a X.env) (fun v s₁ => wpAny (model X.prog X.w) X.A (eval b X.env) (fun u s₂ => wpAny (model X.prog X.w) X.A (f v u) Q X.xe s₂) X.xe s₁) X.xe s := by
  refine thn (ha pins s σ H _ I h) fun v s1 ⟨x, H1, I1, r1, q1⟩ => ?_
  refine thn (hb pins s1 σ H1 _ I1 q1) fun u s2 ⟨y, H2, I2, r2, q2⟩ => ?_
  exact hf v u s2 x y H2 I2 r1 r2 q2

theorem pe_op {op : Operator} {r : R2} (ho : OpR X (binaryOp op) r) (ha : PE X a ta) (hb : PE X b tb) : PE X (.BinOp a op b pos) (tOp r ta tb) := by
  intro pins s σ H Q I h
  exact wpAny_BinOp (binT ha hb I h fun v u s2 x y H2 I2 rx ry q => ho pins s2 σ H2 x y v u Q I2 rx ry q)
theorem opI {f : Value → Value → Sem Value} {C : Int → Int → Prop} {g : Int → Int → Int}
    (rule : ∀ (i j : Int) (t u : Tok) (s : Shared) (Q : Value → Shared → Prop) (E : Value → Shared → Prop), C i j → Q (.int (g i j) s.toks) { s with toks := s.toks + 1 } → wpAny (model X.prog X.w) X.A (f (.int i t) (.int j u)) Q E s) :
    OpR X f (rI C fun i j => .int (g i j)) := by
  intro pins s σ H x y v u Q I rx ry h
  obtain ⟨i, j, rfl, rfl, hc, q⟩ := h
  obtain ⟨t, rfl⟩ := rx
  obtain ⟨t', rfl⟩ := ry
  exact rule i j t t' s _ _ hc ⟨.int (g i j), H, I.tok _, ⟨_, rfl⟩, q⟩
theorem opI0 {f : Value → Value → Sem Value} {g : Int → Int → Int}
    (rule : ∀ (i j : Int) (t u : Tok) (s : Shared) (Q : Value → Shared → Prop) (E : Value → Shared → Prop), Q (.int (g i j) s.toks) { s with toks := s.toks + 1 } → wpAny (model X.prog X.w) X.A (f (.int i t) (.int j u)) Q E s) :
    OpR X f (rI0 fun i j => .int (g i j)) := by
  intro pins s σ H x y v u Q I rx ry h
  obtain ⟨i, j, rfl, rfl, q⟩ := h
  obtain ⟨t, rfl⟩ := rx
  obtain ⟨t', rfl⟩ := ry
  exact rule i j t t' s _ _ ⟨.int (g i j), H, I.tok _, ⟨_, rfl⟩, q⟩
theorem opB0 {f : Value → Value → Sem Value} {g : Int → Int → Bool}
    (rule : ∀ (i j : Int) (t u : Tok) (s : Shared) (Q : Value → Shared → Prop) (E : Value → Shared → Prop), Q (.bool (g i j)) s → wpAny (model X.prog X.w) X.A (f (.int i t) (.int j u)) Q E s) :
    OpR X f (rI0 fun i j => .bl (g i j)) := by
  intro pins s σ H x y v u Q I rx ry h
  obtain ⟨i, j, rfl, rfl, q⟩ := h
  obtain ⟨t, rfl⟩ := rx
  obtain ⟨t', rfl⟩ := ry
  exact rule i j t t' s _ _ ⟨.bl (g i j), H, I, rfl, q⟩

def CDiv (i j : Int) : Prop := 0 < j ∧ j < 1073741824
def CDivN (i j : Int) : Prop := j ≠ 0 ∧ j.natAbs < 1073741824
def CPow (i j : Int) : Prop := 0 ≤ j ∧ j ≤ 1000000 ∧ i.natAbs < 2 ^ 64
def CMul (i j : Int) : Prop := (-(2 ^ 64) < i ∧ i < 2 ^ 64) ∨ (-(2 ^ 64) < j ∧ j < 2 ^ 64)
theorem CMul.ok {i j : Int} (h : CMul i j) : IntMulOk i j := by
  rcases h with ⟨h1, h2⟩ | ⟨h1, h2⟩
  · exact .of_left (intBits_le_64 h1 h2)
  · exact .of_right (intBits_le_64 h1 h2)
theorem op_add : OpR X (binaryOp .Add) (rI0 fun i j => .int (i + j)) := opI0 fun _ _ _ _ _ _ _ q => add_int q
theorem op_sub : OpR X (binaryOp .Sub) (rI0 fun i j => .int (i - j)) := opI0 fun _ _ _ _ _ _ _ q => sub_int q
theorem op_mul : OpR X (binaryOp .Mult) (rI CMul fun i j => .int (i * j)) := opI fun _ _ _ _ _ _ _ hc q => mul_int q hc.ok
theorem op_mod : OpR X (binaryOp .Mod) (rI (fun _ j => 0 < j) fun i j => .int (i % j)) := opI fun i j _ _ _ _ _ hc q => by
  have h1 : (0 : Int) < j := hc
  exact mod_int' (by omega) (by rw [Int.fmod_eq_emod_of_nonneg i (by omega)]; exact q)
theorem op_pow : OpR X (binaryOp .Pow) (rI CPow fun i j => .int (i ^ j.toNat)) := opI fun _ _ _ _ _ _ _ hc q => pow_int_small hc.1 hc.2.1 hc.2.2 q
end

def scal : V → V → Bool
  | .non, .non => true | .non, .int _ => true | .int _, .non => true | .non, .bl _ => true | .bl _, .non => true | .non, .str _ => true | .str _, .non => true
  | .int _, .int _ => true | .bl _, .bl _ => true | .str _, .str _ => true | .byt _, .byt _ => true
  | .int _, .str _ => true | .str _, .int _ => true | .bl _, .str _ => true | .str _, .bl _ => true
  | _, _ => false
def rEq : R2 := fun x y H Q => scal x y = true ∧ Q (.bl (decide (x = y))) H
def rNe : R2 := fun x y H Q => scal x y = true ∧ Q (.bl (!decide (x = y))) H

theorem dec_int {i j : Int} : decide (V.int i = V.int j) = (i == j) := by
  rw [Bool.eq_iff_iff]
  simp
theorem dec_bl {i j : Bool} : decide (V.bl i = V.bl j) = (i == j) := by
  rw [Bool.eq_iff_iff]
  simp
theorem dec_str {i j : Str} : decide (V.str i = V.str j) = (i == j) := by
  rw [Bool.eq_iff_iff]
  simp
theorem dec_byt {i j : Array UInt8} : decide (V.byt i = V.byt j) = (i.toList == j.toList) := by
  rw [Bool.eq_iff_iff]
  cases i
  cases j
  simp

section
variable {X : Cx} {a b c : Expr} {ta tb tc : TE} {pos : Pos}
theorem fin_bl {pins : List (Addr × Obj)} {σ : St} {H : Hp} {s : Shared} {Q : VK} {k k' : Bool} (I : Inv X pins σ H s) (q : Q (.bl k) H) (e : k = k') : EP X pins σ Q (.bool k') s := by
  subst e
  exact ⟨.bl k, H, I, rfl, q⟩
theorem op_eq : OpR X (compareOp .Eq) rEq := by
  intro pins s σ H x y v u Q I rx ry h
  obtain ⟨hs, q⟩ := h
  cases x with
  | non =>
    cases rx
    cases y with
    | non => cases ry; exact PySem.EqNone.eq_none_none (fin_bl I q (by simp))
    | bl j => cases ry; exact PySem.EqNone.eq_none_bool (fin_bl I q (by simp))
    | int j => obtain ⟨t', rfl⟩ := ry; exact PySem.EqNone.eq_none_int (fin_bl I q (by simp))
    | str j => obtain ⟨t', rfl⟩ := ry; exact PySem.EqNone.eq_none_str (fin_bl I q (by simp))
    | _ => exact absurd (show false = true from hs) Bool.false_ne_true
  | bl i =>
    cases rx
    cases y with
    | non => cases ry; exact PySem.EqNone.eq_bool_none (fin_bl I q (by simp))
    | bl j => cases ry; exact eq_bool (fin_bl I q dec_bl)
    | str j => obtain ⟨t', rfl⟩ := ry; exact PySem.EqMixed.eq_bool_str (fin_bl I q (by simp))
    | _ => exact absurd (show false = true from hs) Bool.false_ne_true
  | int i =>
    obtain ⟨t, rfl⟩ := rx
    cases y with
    | non => cases ry; exact PySem.EqNone.eq_int_none (fin_bl I q (by simp))
    | int j => obtain ⟨t', rfl⟩ := ry; exact eq_int (fin_bl I q dec_int)
    | str j => obtain ⟨t', rfl⟩ := ry; exact PySem.EqMixed.eq_int_str (fin_bl I q (by simp))
    | _ => exact absurd (show false = true from hs) Bool.false_ne_true
  | str i =>
    obtain ⟨t, rfl⟩ := rx
    cases y with
    | non => cases ry; exact PySem.EqNone.eq_str_none (fin_bl I q (by simp))
    | bl j => cases ry; exact PySem.EqMixed.eq_str_bool (fin_bl I q (by simp))
    | int j => obtain ⟨t', rfl⟩ := ry; exact PySem.EqMixed.eq_str_int (fin_bl I q (by simp))
    | str j => obtain ⟨t', rfl⟩ := ry; exact eq_str (fin_bl I q dec_str)
    | _ => exact absurd (show false = true from hs) Bool.false_ne_true
  | byt i =>
    obtain ⟨t, rfl⟩ := rx
    cases y with
    | byt j => obtain ⟨t', rfl⟩ := ry; exact PySem.W.eq_bytes (fin_bl I q dec_byt)
    | _ => exact absurd (show false = true from hs) Bool.false_ne_true
  | _ => cases y <;> exact absurd (show false = true from hs) Bool.false_ne_true
theorem op_ne : OpR X (compareOp .NotEq) rNe := by
  intro pins s σ H x y v u Q I rx ry h
  obtain ⟨hs, q⟩ := h
  cases x with
  | non =>
    cases rx
    cases y with
    | non => cases ry; exact PySem.EqNone.ne_none_none (fin_bl I q (by simp))
    | bl j => cases ry; exact PySem.EqNone.ne_none_bool (fin_bl I q (by simp))
    | int j => obtain ⟨t', rfl⟩ := ry; exact PySem.EqNone.ne_none_int (fin_bl I q (by simp))
    | str j => obtain ⟨t', rfl⟩ := ry; exact PySem.EqNone.ne_none_str (fin_bl I q (by simp))
    | _ => exact absurd (show false = true from hs) Bool.false_ne_true
  | bl i =>
    cases rx
    cases y with
    | non => cases ry; exact PySem.EqNone.ne_bool_none (fin_bl I q (by simp))
    | bl j => cases ry; exact ne_bool (fin_bl I q (congrArg not dec_bl))
    | str j => obtain ⟨t', rfl⟩ := ry; exact PySem.EqMixed.ne_bool_str (fin_bl I q (by simp))
    | _ => exact absurd (show false = true from hs) Bool.false_ne_true
  | int i =>
    obtain ⟨t, rfl⟩ := rx
    cases y with
    | non => cases ry; exact PySem.EqNone.ne_int_none (fin_bl I q (by simp))
    | int j => obtain ⟨t', rfl⟩ := ry; exact ne_int (fin_bl I q (congrArg not dec_int))
    | str j => obtain ⟨t', rfl⟩ := ry; exact PySem.EqMixed.ne_int_str (fin_bl I q (by simp))
    | _ => exact absurd (show false = true from hs) Bool.false_ne_true
  | str i =>
    obtain ⟨t, rfl⟩ := rx
    cases y with
    | non => cases ry; exact PySem.EqNone.ne_str_none (fin_bl I q (by simp))
    | bl j => cases ry; exact PySem.EqMixed.ne_str_bool (fin_bl I q (by simp))
    | int j => obtain ⟨t', rfl⟩ := ry; exact PySem.EqMixed.ne_str_int (fin_bl I q (by simp))
    | str j => obtain ⟨t', rfl⟩ := ry; exact ne_str (fin_bl I q (congrArg not dec_str))
    | _ => exact absurd (show false = true from hs) Bool.false_ne_true
  | byt i =>
    obtain ⟨t, rfl⟩ := rx
    cases y with
    | byt j => obtain ⟨t', rfl⟩ := ry; exact PySem.W.ne_bytes (fin_bl I q (congrArg not dec_byt))
    | _ => exact absurd (show false = true from hs) Bool.false_ne_true
  | _ => cases y <;> exact absurd (show false = true from hs) Bool.false_ne_true

theorem op_lt : OpR X (compareOp .Lt) (rI0 fun i j => .bl (decide (i < j))) := opB0 fun _ _ _ _ _ _ _ q => lt_int q
theorem op_le : OpR X (compareOp .LtE) (rI0 fun i j => .bl (decide (i ≤ j))) := opB0 fun _ _ _ _ _ _ _ q => le_int q
theorem op_gt : OpR X (compareOp .Gt) (rI0 fun i j => .bl (decide (j < i))) := opB0 fun _ _ _ _ _ _ _ q => gt_int q
theorem op_isN : OpR X (compareOp .Is) (fun x y H Q => y = .non ∧ Q (.bl (decide (x = .non))) H) := by
  intro pins s σ H x y v u Q I rx ry h
  obtain ⟨rfl, q⟩ := h
  cases ry
  refine is_none_gen (fin_bl I q ?_)
  cases x <;> first
    | (cases rx; rfl)
    | (obtain ⟨t, rfl⟩ := rx; rfl)
def isObj : HO → Bool
  | .lst _ => true
  | .ins _ _ _ => true
  | _ => false
theorem nomark (b : Expr) {op : CmpOp} (h : op ≠ .In := by decide) (h2 : op ≠ .NotIn := by decide) : behindInMarks op b = false := by
  have e1 : (op == CmpOp.In) = false := by cases op <;> first | rfl | exact absurd rfl h
  have e2 : (op == CmpOp.NotIn) = false := by cases op <;> first | rfl | exact absurd rfl h2
  cases b <;> simp [behindInMarks, e1, e2]
theorem pe_cmpR {op : CmpOp} {r : R2} (ho : OpR X (compareOp op) r) (ha : PE X a ta) (hb : PE X b tb) (hm : behindInMarks op b = false) : PE X (.Compare a [op] [b] pos) (tOp r ta tb) := by
  intro pins s σ H Q I h
  exact wpAny_Compare1 (binT ha hb I h fun v u s2 x y H2 I2 rx ry q => ho pins s2 σ H2 x y v u Q I2 rx ry q) hm
def tTest (t : TE) : TT := fun σ H Q => t σ H fun x H' => ∃ k, x = .bl k ∧ Q k H'
theorem pt_cmpR {op : CmpOp} {r : R2} (ho : OpR X (compareOp op) r) (ha : PE X a ta) (hb : PE X b tb) (hm : behindInMarks op b = false) : PT X (.Compare a [op] [b] pos) (tTest (tOp r ta tb)) := by
  intro pins s σ H Q I h
  refine wpAny_isTrue_Compare1 (thn (ha pins s σ H _ I h) fun v s1 ⟨x, H1, I1, r1, q1⟩ => thn (hb pins s1 σ H1 _ I1 q1) fun u s2 ⟨y, H2, I2, r2, q2⟩ =>
    thn (ho pins s2 σ H2 x y v u _ I2 r1 r2 q2) fun c s3 ⟨z, H3, I3, r3, k, e, q3⟩ => ?_) hm
  subst e
  cases r3
  exact wpAny_truthy_bool ⟨H3, I3, q3⟩
def tChain (r r' : R2) (ta tb tc : TE) : TE := fun σ H Q => ta σ H fun x H1 => tb σ H1 fun y H2 => r x y H2 fun z H3 => ∃ k, z = .bl k ∧
  (if k = true then tc σ H3 fun w' H4 => r' y w' H4 Q else Q (.bl false) H3)
def TruV (K : PySem.W.Frag) (x : V) (H : Hp) (k : Bool) : Prop :=
  match x with
  | .non => k = false
  | .bl b => k = b
  | .int i => k = (i != 0)
  | .str y => y.length ≤ sizeLine ∧ k = ((y.length : Int) != 0)
  | .byt y => y.size ≤ sizeLine ∧ k = ((y.size : Int) != 0)
  | .ref p => (∃ xs, SqL K H p xs ∧ k = !xs.isEmpty) ∨ (∃ xs, SqT K H p xs ∧ k = !xs.isEmpty) ∨ ∃ kvs, H p = some (.dK kvs) ∧ k = !kvs.isEmpty
  | _ => False
theorem isEmpty_kv {κ : Type} {kvs : List (κ × V)} {vs : List (κ × Value)} (r : KV kvs vs) : (!vs.isEmpty) = !kvs.isEmpty := by
  cases r <;> rfl
theorem isEmpty_of {xs : List V} {its : List Value} (r : Vals xs its) : (!its.toArray.isEmpty) = !xs.isEmpty := by
  cases r <;> simp
theorem line63 : (sizeLine : Nat) < 2 ^ 63 := by rw [sizeLine_eq]; decide
theorem tru_ok : TruR X (fun x H Q => ∃ k, TruV X.K x H k ∧ Q k H) := by
  intro pins s σ H x v Q I rx h
  obtain ⟨k, e, q⟩ := h
  have hl := line63
  have hs : sizeLine = 16777216 := sizeLine_eq
  cases x with
  | non =>
    cases rx
    have e' : k = false := e
    subst e'
    exact truthy_none ⟨H, I, q⟩
  | bl b =>
    cases rx
    have e' : k = b := e
    subst e'
    exact wpAny_truthy_bool ⟨H, I, q⟩
  | int i =>
    obtain ⟨t, rfl⟩ := rx
    have e' : k = (i != 0) := e
    subst e'
    exact PySem.P.truthy_int ⟨H, I, q⟩
  | str y =>
    obtain ⟨t, rfl⟩ := rx
    obtain ⟨hy, e'⟩ : y.length ≤ sizeLine ∧ k = ((y.length : Int) != 0) := e
    subst e'
    exact PySem.P.truthy_str (by omega) ⟨H, I.tok _, q⟩
  | byt y =>
    obtain ⟨t, rfl⟩ := rx
    obtain ⟨hy, e'⟩ : y.size ≤ sizeLine ∧ k = ((y.size : Int) != 0) := e
    subst e'
    exact PySem.W.truthy_bytes (by omega) ⟨H, I.tok _, q⟩
  | ref p =>
    cases rx
    have e' : (∃ xs, SqL X.K H p xs ∧ k = !xs.isEmpty) ∨ (∃ xs, SqT X.K H p xs ∧ k = !xs.isEmpty) ∨ ∃ kvs, H p = some (.dK kvs) ∧ k = !kvs.isEmpty := e
    rcases e' with ⟨xs, hx, e'⟩ | ⟨xs, hx, e'⟩ | ⟨kvs, hx, e'⟩
    · subst e'
      obtain ⟨its, r, pl, hz⟩ := I.list hx
      have hlen := r.length
      exact wpAny_truthy_list pl.isList (by simp only [List.size_toArray]; omega) ⟨H, I.tok _, by rw [isEmpty_of r]; exact q⟩
    · subst e'
      obtain ⟨its, r, pl, hz⟩ := I.tuple hx
      have hlen := r.length
      exact truthy_tuple pl (by simp only [List.size_toArray]; omega) ⟨H, I.tok _, by rw [isEmpty_of r]; exact q⟩
    · subst e'
      obtain ⟨hz, hS, vs, r, m⟩ : kvs.length ≤ sizeLine ∧ (p == sysModules) = false ∧ ∃ vs, KV kvs vs ∧ s.heap.DictOf (mixKind X.prog X.w) p vs := I.hok p _ hx
      have hlen : kvs.length = vs.length := Paired.length r
      exact wpAny_truthy_dict hS m (by omega) ⟨H, I.tok _, by rw [isEmpty_kv r]; exact q⟩
  | _ => exact (show False from e).elim
theorem pt_truth (ha : PE X a ta) (he : ∀ whole, isTrue a X.env whole = (do let v ← whole; standAt a.pos; holding [v] (truthy v))) :
    PT X a (fun σ H Q => ta σ H fun x H' => ∃ k, TruV X.K x H' k ∧ Q k H') := by
  intro pins s σ H Q I h
  exact isTrue_plain (thn (ha pins s σ H _ I h) fun v s1 ⟨x, H1, I1, r1, q1⟩ => tru_ok pins s1 σ H1 x v Q I1 r1 q1) (he _)

theorem op_add_str : OpR X (binaryOp .Add) (fun x y H Q => ∃ i j, x = .str i ∧ y = .str j ∧ i.length + j.length ≤ sizeLine ∧ Q (.str (i ++ j)) H) := by
  intro pins s σ H x y v u Q I rx ry h
  obtain ⟨i, j, rfl, rfl, hz, q⟩ := h
  obtain ⟨t, rfl⟩ := rx
  obtain ⟨t', rfl⟩ := ry
  exact add_str (fun t' tk => ⟨.str (i ++ j), H, I.tok _, ⟨_, rfl⟩, q⟩) hz
def PlainIxT (b : Expr) : Prop := ∀ o i, subscripted b false o i = operate [o, i] (getItem o i)
theorem vals1 {x : V} {us : List Value} (r : Vals [x] us) : ∃ u, us = [u] ∧ RelV x u := by
  cases r with
  | cons r1 r2 => cases r2; exact ⟨_, rfl, r1⟩
theorem vals2 {x y : V} {us : List Value} (r : Vals [x, y] us) : ∃ u w', us = [u, w'] ∧ RelV x u ∧ RelV y w' := by
  cases r with
  | cons r1 r2 =>
    cases r2 with
    | cons r3 r4 => cases r4; exact ⟨_, _, rfl, r1, r3⟩
theorem call_max2 (hc : X.calm = true) : CallR X (.builtin "max") (fun xs H Q => ∃ i j, xs = [.int i, .int j] ∧ Q (.int (if j > i then j else i)) H) := by
  intro pins s σ H xs us Q I r h
  obtain ⟨i, j, rfl, q⟩ := h
  obtain ⟨u, w', rfl, ⟨t, rfl⟩, ⟨t', rfl⟩⟩ := vals2 r
  refine max_two_ints (I.ok.hd hc) fun h' tk k => ⟨_, H, I.kept k, ?_, q⟩
  by_cases hj : j > i
  · rw [if_pos hj, if_pos hj]; exact ⟨_, rfl⟩
  · rw [if_neg hj, if_neg hj]; exact ⟨_, rfl⟩
theorem call_min2 (hc : X.calm = true) : CallR X (.builtin "min") (fun xs H Q => ∃ i j, xs = [.int i, .int j] ∧ Q (.int (if j < i then j else i)) H) := by
  intro pins s σ H xs us Q I r h
  obtain ⟨i, j, rfl, q⟩ := h
  obtain ⟨u, w', rfl, ⟨t, rfl⟩, ⟨t', rfl⟩⟩ := vals2 r
  refine min_two_ints (I.ok.hd hc) fun h' tk k => ⟨_, H, I.kept k, ?_, q⟩
  by_cases hj : j < i
  · rw [if_pos hj, if_pos hj]; exact ⟨_, rfl⟩
  · rw [if_neg hj, if_neg hj]; exact ⟨_, rfl⟩
def LenV (K : PySem.W.Frag) (x : V) (H : Hp) (n : Nat) : Prop :=
  match x with
  | .str y => y.length ≤ sizeLine ∧ n = y.length
  | .byt y => y.size ≤ sizeLine ∧ n = y.size
  | .ref p => (∃ xs, SqL K H p xs ∧ n = xs.length) ∨ ∃ xs, SqT K H p xs ∧ n = xs.length
  | _ => False
end
end L2

namespace L2
open PySem PySem.Spec PyProof.Rows

structure ObjM (h : Heap) (x dx C : Addr) (mA : Str → Option Value) : Prop where
  obj : h.get? x = some (PySem.W.instObj C dx)
  ns : h.Ns1 dx mA
  ne : dx ≠ x

theorem lookIn_ns {h : Heap} {dx : Addr} {mA : Str → Option Value} (n : h.Ns1 dx mA) : ∃ od, h.get? dx = some od ∧ ∀ name, PySem.W.lookIn name od = some (mA name) := by
  obtain ⟨o, es, ep, ho, hd, hk, _, hm⟩ := n
  refine ⟨o, ho, fun name => ?_⟩
  have e := hm name
  unfold nsFind findBy at e
  rw [← Array.find?_toList] at e
  unfold PySem.W.lookIn
  rw [hd]
  dsimp only
  split
  · rename_i y q
    rw [q] at e
    exact congrArg some e
  · rename_i q
    rw [q] at e
    have a : es.toList.any (·.refKey) = false := by
      rw [List.any_eq_false]
      intro y hy
      obtain ⟨z, t, hkey⟩ := hk y (Array.mem_toList_iff.mp hy)
      simp [DictEntry.refKey, hkey]
    have a' : ¬ es.toList.any (·.refKey) = true := by rw [a]; exact Bool.false_ne_true
    rw [if_neg a']
    exact congrArg some e

theorem ObjM.look {h : Heap} {x dx C : Addr} {mA : Str → Option Value} (I : ObjM h x dx C mA) : ∃ od, PySem.W.InstAt h x (PySem.W.instObj C dx) C (some od) ∧ ∀ name, PySem.W.lookIn name od = some (mA name) :=
  let ⟨od, ho, hl⟩ := lookIn_ns I.ns
  ⟨od, ⟨I.obj, rfl, rfl, ho⟩, hl⟩

section
variable {prog : Program} {w : World} {A : Around} {E : Value → Shared → Prop} {s : Shared} {K : PySem.W.Frag} {x dx C f : Addr} {mA : Str → Option Value} {name : Str} {v : Value}

theorem get_map {expr : Bool} {Q : Value → Shared → Prop} (X : K.In s.heap) (I : ObjM s.heap x dx C mA) (hg : PySem.W.plainGet K C name = true) (hh : PySem.W.hasDictIn K C = true)
    (ha : PySem.W.findIn K (.ref C) name = some none) (hv : mA name = some v) (hv' : PySem.W.handedIn v = true) (h : Q v { s with toks := s.toks + 1 }) :
    wpAny (model prog w) A (getAttr (.ref x) name expr) Q E s := by
  obtain ⟨od, J, hl⟩ := I.look
  exact PySem.W.get_value X J (PySem.W.plainGet_of hg).1 (PySem.W.findObj_own hh ha rfl (by rw [hl, hv])) hv' h

theorem get_meth {pl : Sem Bool} {Q : Value × List Value → Shared → Prop} (X : K.In s.heap) (I : ObjM s.heap x dx C mA) (hg : PySem.W.plainGet K C name = true)
    (hf : PySem.W.findIn K (.ref C) name = some (some (.ref f))) (ht : PySem.W.isFn K (.ref f) = true) (hv : mA name = none) (h : Q (.ref f, [.ref x]) s) :
    wpAny (model prog w) A (getMethod (.ref x) name pl) Q E s := by
  obtain ⟨od, J, hl⟩ := I.look
  exact PySem.W.method_fn X J (PySem.W.plainGet_of hg).1 (PySem.W.plainGet_of hg).2 hf (beq_iff_eq.mp ht) (by show (PySem.W.lookIn name od).map (·.isSome) = some false; rw [hl, hv]; rfl) h

theorem set_map {ns : List Str} {Q : Unit → Shared → Prop} (X : K.In s.heap) (I : ObjM s.heap x dx C mA)
    (hs : PySem.W.findIn K (.ref C) "__setattr__" = some (some (.builtin "object.__setattr__"))) (hp : PySem.W.plainOver K C = true) (ht : PySem.W.takerIn K C name = some none) (hh : PySem.W.hasDictIn K C = true)
    (hw : PySem.Within mA ns) (hsz : ns.length ≤ sizeLine)
    (h : ∀ h', ObjM h' x dx C (fun y => if y = name then some v else mA y) → Heap.SameBut dx s.heap h' → Q () { s with heap := h', toks := s.toks + 2 }) :
    wpAny (model prog w) A (setAttr (.ref x) name v) Q E s := by
  obtain ⟨od, J, hl⟩ := I.look
  refine PySem.W.set_plain X J hs (PySem.W.osa_open (s := { s with toks := s.toks + 1 }) (r := none) X J hp ht fun b => ?_)
  obtain ⟨cd, hc, hd'⟩ := PySem.W.any_some hh
  have hx : s.heap.get? x = some ⟨.ref C, some dx, .plain, #[]⟩ := I.obj
  refine wpAny_bind (wpAny_pure (wpAny_bind (wpAny_bind (wpAny_loadPart hx (wpAny_bind (PySem.W.Looks.here (s := { s with toks := s.toks + 1 }) (PySem.W.looks_clsIn X hc) ?_))))))
  rw [hd']
  refine wpAny_pure (a := some dx) (wpAny_bind (wpAny_pure (wpAny_bind ?_)))
  refine wpAny_nsSet1 (s := { s with toks := s.toks + 1 }) I.ns fun h' hn2 hs2 => ?_
  obtain ⟨oD, esD, epD, hoD, hdD, hcD⟩ := hn2.count (PySem.Within.cons name v hw)
  refine wpAny_bind (wpAny_lookBehind hoD (by rw [hdD]; exact pastItsLine_dict (Nat.le_trans hcD (by rw [List.length_cons]; omega))) ?_)
  exact wpAny_pure (h _ ⟨(hs2.2 _ (Ne.symm I.ne)).trans I.obj, hn2, I.ne⟩ hs2)

theorem make_map {R : Result → Shared → Prop} {vs : List Value} {kw : List (Str × Value)} (X : K.In s.heap) (hm : PySem.W.makesIn K C = true)
    (hi : PySem.W.findIn K (.ref C) "__init__" = some (some (.ref f))) (hf : PySem.W.typeIn K (.ref f) = some (.type "function"))
    (h : codeAny (model prog w) (A.under (.builtin "type.__call__" ⟨.ref C :: vs, kw⟩)) (.call (.ref f) ⟨.ref (s.heap.objs.size + 1) :: vs, kw⟩) (PySem.W.InitBack (s.heap.objs.size + 1) R)
      { s with heap := (s.heap.push PySem.W.emptyDict).push (PySem.W.instObj C s.heap.objs.size) }) :
    codeAny (model prog w) A (.call (.ref C) ⟨vs, kw⟩) R s := by
  obtain ⟨hh, g, d, t, os⟩ := s
  exact PySem.W.make_core (PySem.W.makes_of X hm) (PySem.W.looks_findIn X hi) (fun self => PySem.W.bind_fn X self hf) (.inl rfl) h
end

def putF (f : Str) (v : V) : List (Str × V) → List (Str × V)
  | [] => [(f, v)]
  | (g, x) :: r => if g = f then (g, v) :: r else (g, x) :: putF f v r
theorem lookup_putF (f g : Str) (v : V) : ∀ fs : List (Str × V), (putF f v fs).lookup g = if g = f then some v else fs.lookup g
  | [] => by
    show List.lookup g [(f, v)] = _
    by_cases h : g = f
    · have hb : (g == f) = true := beq_iff_eq.mpr h
      simp only [List.lookup, hb, if_pos h]
    · have hb : (g == f) = false := beq_eq_false_iff_ne.mpr h
      simp only [List.lookup, hb, if_neg h]
  | (k, x) :: r => by
    have ih := lookup_putF f g v r
    rw [show putF f v ((k, x) :: r) = (if k = f then (k, v) :: r else (k, x) :: putF f v r) from rfl]
    by_cases hk : k = f
    · rw [if_pos hk]
      by_cases h : g = k
      · have hb : (g == k) = true := beq_iff_eq.mpr h
        simp only [List.lookup, hb, if_pos (h.trans hk)]
      · have hb : (g == k) = false := beq_eq_false_iff_ne.mpr h
        simp only [List.lookup, hb, if_neg (fun e : g = f => h (e.trans hk.symm))]
    · rw [if_neg hk]
      by_cases h : g = k
      · have hb : (g == k) = true := beq_iff_eq.mpr h
        simp only [List.lookup, hb, if_neg (fun e : g = f => hk (h.symm.trans e))]
      · have hb : (g == k) = false := beq_eq_false_iff_ne.mpr h
        simp only [List.lookup, hb]
        exact ih
theorem keys_putF (f : Str) (v : V) : ∀ fs : List (Str × V), f ∈ (putF f v fs).map (·.1) ∧ ∀ g, g ∈ fs.map (·.1) → g ∈ (putF f v fs).map (·.1)
  | [] => ⟨by simp [putF], fun g h => by simp at h⟩
  | (k, x) :: r => by
    obtain ⟨i1, i2⟩ := keys_putF f v r
    rw [show putF f v ((k, x) :: r) = (if k = f then (k, v) :: r else (k, x) :: putF f v r) from rfl]
    by_cases hk : k = f
    · rw [if_pos hk]
      subst hk
      exact ⟨by simp, fun g h => by simpa using h⟩
    · rw [if_neg hk]
      refine ⟨?_, fun g h => ?_⟩
      · rw [List.map_cons]
        exact List.mem_cons_of_mem _ i1
      · rw [List.map_cons] at h ⊢
        rcases List.mem_cons.mp h with e | e
        · exact List.mem_cons.mpr (.inl e)
        · exact List.mem_cons_of_mem _ (i2 g e)
theorem length_putF (f : Str) (v : V) : ∀ fs : List (Str × V), (putF f v fs).length ≤ fs.length + 1
  | [] => by simp [putF]
  | (k, x) :: r => by
    have ih := length_putF f v r
    rw [show putF f v ((k, x) :: r) = (if k = f then (k, v) :: r else (k, x) :: putF f v r) from rfl]
    by_cases hk : k = f
    · rw [if_pos hk, List.length_cons, List.length_cons]; omega
    · rw [if_neg hk, List.length_cons, List.length_cons]; omega

theorem RelO.some_of {v : V} {o : Option Value} (r : RelO (some v) o) : ∃ u, o = some u ∧ RelV v u := by
  cases o with
  | none => exact (show False from r).elim
  | some u => exact ⟨u, rfl, r⟩
theorem RelO.none_of {o : Option Value} (r : RelO none o) : o = none := by
  cases o with
  | none => rfl
  | some u => exact (show False from r).elim
theorem handed_of {v : V} {u : Value} (r : RelV v u) : PySem.W.handedIn u = true := by
  cases v with
  | non => cases (show u = Value.none from r); rfl
  | bl b => cases (show u = Value.bool b from r); rfl
  | int i => obtain ⟨t, e⟩ := (show ∃ t, u = Value.int i t from r); cases e; rfl
  | str x => obtain ⟨t, e⟩ := (show ∃ t, u = Value.str x t from r); cases e; rfl
  | byt b => obtain ⟨t, e⟩ := (show ∃ t, u = Value.bytes b t from r); cases e; rfl
  | flt b => obtain ⟨t, e⟩ := (show ∃ t, u = Value.float b t from r); cases e; rfl
  | ref a => cases (show u = Value.ref a from r); rfl
  | ty n => cases (show u = Value.type n from r); rfl

section
variable {P : Program} {w : World} {H H' : Hp} {h h' : Heap} {a C dx : Addr} {fs fs' : List (Str × V)}
theorem ins_get (hok : HOk P w H h) (e : H a = some (.ins C dx fs)) : ∃ mA, ObjM h a dx C mA ∧ (∀ f, RelO (fs.lookup f) (mA f)) ∧ PySem.Within mA (fs.map (·.1)) ∧ fs.length ≤ 1000 ∧ H dx = some (.own a) := by
  obtain ⟨d, z, ne, ob, mA, n, r, q⟩ := (show ObjOk P w H h a (.ins C dx fs) from hok a _ e)
  exact ⟨mA, ⟨ob, n, ne⟩, r, q, z, d⟩
end

structure Cls (K : PySem.W.Frag) (C : Addr) : Prop where
  pg : PySem.W.plainGet K C Str.empty = true
  hd : PySem.W.hasDictIn K C = true
  po : PySem.W.plainOver K C = true
  sa : PySem.W.findIn K (.ref C) "__setattr__" = some (some (.builtin "object.__setattr__"))
theorem Cls.get {K : PySem.W.Frag} {C : Addr} (c : Cls K C) (f : Str) : PySem.W.plainGet K C f = true := c.pg
def NoAttr (K : PySem.W.Frag) (C : Addr) (f : Str) : Prop := PySem.W.findIn K (.ref C) f = some none
theorem NoAttr.taker {K : PySem.W.Frag} {C : Addr} {f : Str} (n : NoAttr K C f) : PySem.W.takerIn K C f = some none := by
  unfold PySem.W.takerIn
  rw [show PySem.W.findIn K (.ref C) f = some none from n]
  rfl
structure Con (K : PySem.W.Frag) (C : Addr) (f : Str) (v : V) (u : Value) : Prop where
  at_ : PySem.W.findIn K (.ref C) f = some (some u)
  rel : RelV v u
  get : PySem.W.specialIn K u "__get__" = some none
  cp : PySem.W.copiedNames.contains f = false
structure Meth (K : PySem.W.Frag) (C : Addr) (m : Str) (f : Addr) : Prop where
  at_ : PySem.W.findIn K (.ref C) m = some (some (.ref f))
  fn : PySem.W.isFn K (.ref f) = true
  kp : PySem.W.keepIn K (.ref f) = true

section
variable {X : Cx} {pins : List (Addr × Obj)} {σ : St} {H : Hp} {s : Shared} {a C dx : Addr} {fs : List (Str × V)} {f : Str} {v : V} {A : Around} {E : Value → Shared → Prop}

theorem getattr_ok {b : Bool} {Q : Value → Shared → Prop} (I : Inv X pins σ H s) (e : H a = some (.ins C dx fs)) (c : Cls X.K C) (n : NoAttr X.K C f) (l : fs.lookup f = some v)
    (h : ∀ u s', Inv X pins σ H s' → RelV v u → Q u s') : wpAny (model X.prog X.w) A (getAttr (.ref a) f b) Q E s := by
  obtain ⟨mA, O, r, _, _, _⟩ := ins_get I.hok e
  obtain ⟨u, hu, ru⟩ := RelO.some_of (v := v) (o := mA f) (by rw [← l]; exact r f)
  exact get_map I.kIn O (c.get f) c.hd n hu (handed_of ru) (h u _ (I.tok _) ru)

theorem getmeth_ok {m : Str} {g : Addr} {pl : Sem Bool} {Q : Value × List Value → Shared → Prop} (I : Inv X pins σ H s) (e : H a = some (.ins C dx fs)) (c : Cls X.K C) (k : Meth X.K C m g) (l : fs.lookup m = none)
    (h : Q (.ref g, [.ref a]) s) : wpAny (model X.prog X.w) A (getMethod (.ref a) m pl) Q E s := by
  obtain ⟨mA, O, r, _, _, _⟩ := ins_get I.hok e
  have hn : mA m = none := RelO.none_of (by rw [← l]; exact r m)
  exact get_meth I.kIn O (c.get m) k.at_ k.fn hn h

theorem setattr_ok {y : V} {u : Value} {Q : Unit → Shared → Prop} (I : Inv X pins σ H s) (e : H a = some (.ins C dx fs)) (c : Cls X.K C) (n : NoAttr X.K C f) (hl : fs.length < 1000) (ry : RelV y u)
    (h : ∀ s', Inv X pins σ (upd H a (.ins C dx (putF f y fs))) s' → Q () s') : wpAny (model X.prog X.w) A (setAttr (.ref a) f u) Q E s := by
  obtain ⟨mA, O, r, wi, _, ho⟩ := ins_get I.hok e
  have hz : (fs.map (·.1)).length ≤ sizeLine := by rw [List.length_map, sizeLine_eq]; omega
  refine set_map I.kIn O c.sa c.po n.taker c.hd wi hz fun h' O' sb => h _ ?_
  have hd : ∃ o, h'.get? dx = some o := let ⟨o, _, _, e', _⟩ := O'.ns; ⟨o, e'⟩
  refine I.write (x := a) (e := dx) (by rw [e]; exact True.intro) (.inr ho) (fun b q hb z => (sb.2 b hb).trans z) hd ?_
  refine ⟨by rw [upd_ne O.ne]; exact ho, ?_, O.ne, O'.obj, _, O'.ns, fun g => ?_, fun g hg => ?_⟩
  · have := length_putF f y fs; omega
  · show RelO ((putF f y fs).lookup g) (if g = f then some u else mA g)
    rw [lookup_putF]
    by_cases q : g = f
    · rw [if_pos q, if_pos q]; exact ry
    · rw [if_neg q, if_neg q]; exact r g
  · by_cases q : g = f
    · rw [q]; exact (keys_putF f y fs).1
    · refine (keys_putF f y fs).2 g (wi g fun z => hg ?_)
      show (if g = f then some u else mA g) = none
      rw [if_neg q]; exact z

theorem Inv.made (I : Inv X pins σ H s) : Inv X pins σ (upd (upd H s.heap.objs.size (.own (s.heap.objs.size + 1))) (s.heap.objs.size + 1) (.ins C s.heap.objs.size []))
    { s with heap := (s.heap.push PySem.W.emptyDict).push (PySem.W.instObj C s.heap.objs.size) } := by
  have e1 : (s.heap.push PySem.W.emptyDict).get? s.heap.objs.size = some PySem.W.emptyDict := Heap.get?_push_size s.heap rfl
  have e2 : ((s.heap.push PySem.W.emptyDict).push (PySem.W.instObj C s.heap.objs.size)).get? (s.heap.objs.size + 1) = some (PySem.W.instObj C s.heap.objs.size) := by
    have := Heap.get?_push_size (s.heap.push PySem.W.emptyDict) (o := PySem.W.instObj C s.heap.objs.size) rfl
    rwa [Heap.size_push] at this
  have e3 : (s.heap.push PySem.W.emptyDict).Ns s.heap.objs.size (fun _ => none) := ⟨PySem.W.emptyDict, #[], _, e1, rfl, (fun e he => absurd he (by simp)), fun _ => rfl⟩
  have I1 := I.laid (a := s.heap.objs.size) (o := .own (s.heap.objs.size + 1)) (h' := s.heap.push PySem.W.emptyDict) (t' := s.toks) (fun b u q => Heap.get?_push_of_some _ q) (Nat.le_refl _) ⟨_, e1⟩
  refine I1.laid (a := s.heap.objs.size + 1) (o := .ins C s.heap.objs.size []) (t' := s.toks) (fun b u q => Heap.get?_push_of_some _ q) (Nat.le_of_eq (Heap.size_push _ _)) ?_
  have ne : s.heap.objs.size ≠ s.heap.objs.size + 1 := Nat.ne_of_lt (Nat.lt_succ_self _)
  refine ⟨by rw [upd_ne ne, upd_same], Nat.zero_le _, ne, e2, fun _ => none, (Heap.Ns1.of_empty e3).at fun o q => Heap.get?_push_of_some _ q, fun _ => True.intro, fun y hy => absurd rfl hy⟩

theorem attr_of {prog : Program} {w : World} {env : Env} {e : Expr} {f : Str} {pos : Pos} {s : Shared} {Q : Value → Shared → Prop} (hb : attributeBase e f env (eval e env) = eval e env)
    (h : wpAny (model prog w) A (eval e env) (fun o s₁ => wpAny (model prog w) A (getAttr o f true) Q E s₁) E s) : wpAny (model prog w) A (eval (.Attribute e f pos) env) Q E s :=
  Attribute_any_ h (by rw [arm_eval_Attribute, hb])
end

def tFld (K : PySem.W.Frag) (ta : TE) (f : Str) : TE := fun σ H Q => ta σ H fun x H1 => ∃ a C dx fs v, x = .ref a ∧ H1 a = some (.ins C dx fs) ∧ Cls K C ∧ NoAttr K C f ∧ fs.lookup f = some v ∧ Q v H1
def tCon (K : PySem.W.Frag) (ta : TE) (f : Str) : TE := fun σ H Q => ta σ H fun x H1 => ∃ a C dx fs v u, x = .ref a ∧ H1 a = some (.ins C dx fs) ∧ Cls K C ∧ Con K C f v u ∧ fs.lookup f = none ∧ Q v H1
def sFld (K : PySem.W.Frag) (ta tv : TE) (f : Str) : TS := fun D σ H => tv σ H fun y H1 => ta σ H1 fun x H2 => ∃ a C dx fs, x = .ref a ∧ H2 a = some (.ins C dx fs) ∧ Cls K C ∧ NoAttr K C f ∧ fs.length < 1000 ∧
  D.nx σ (upd H2 a (.ins C dx (putF f y fs)))
def InOp (X : Cx) (op : Operator) (rd : V → V → Hp → VK → Prop) : Prop :=
  ∀ (pins : List (Addr × Obj)) (s : Shared) (σ : St) (H : Hp) (x y : V) (u v : Value) (Q : VK), Inv X pins σ H s → RelV x u → RelV y v → rd x y H Q → wpAny (model X.prog X.w) X.A (inplaceOp op u v) (EP X pins σ Q) X.xe s
def sFldAug (K : PySem.W.Frag) (ta tv : TE) (rd : V → V → Hp → VK → Prop) (f : Str) : TS := fun D σ H => ta σ H fun x H1 => ∃ a C dx fs v, x = .ref a ∧ H1 a = some (.ins C dx fs) ∧ Cls K C ∧ NoAttr K C f ∧ fs.lookup f = some v ∧
  tv σ H1 fun y H2 => rd v y H2 fun z H3 => ∃ dx' fs', H3 a = some (.ins C dx' fs') ∧ fs'.length < 1000 ∧ D.nx σ (upd H3 a (.ins C dx' (putF f z fs')))

section
variable {X : Cx} {o e value : Expr} {f : Str} {pos pos' tpos : Pos} {ta tv : TE}
theorem pe_fld (he : PE X e ta) (hb : attributeBase e f X.env (eval e X.env) = eval e X.env) : PE X (.Attribute e f pos) (tFld X.K ta f) := by
  intro pins s σ H Q I h
  refine attr_of hb (thn (he pins s σ H _ I h) fun u s1 ⟨x, H1, I1, rx, a, C, dx, fs, v, ex, ea, c, n, l, q⟩ => ?_)
  subst ex
  obtain rfl : u = Value.ref a := rx
  exact getattr_ok I1 ea c n l fun u' s2 I2 ru => ⟨v, H1, I2, ru, q⟩
theorem ps_fld (ha : PE X o ta) (hv : PE X value tv) (hs : swapsWith value (some (.Attribute o f pos')) pos.line X.env = pure false) : PS X (.Assign [.Attribute o f pos'] value pos) (sFld X.K ta tv f) := by
  intro pins s σ H D I h
  refine plainObj_wpAny_Assign_Attribute (thn (hv pins s σ H _ I h) fun u s1 ⟨y, H1, I1, ry, q⟩ => thn (ha pins s1 σ H1 _ I1 q) fun ov s2 ⟨x, H2, I2, rx, a, C, dx, fs, ex, ea, c, n, l, q2⟩ => ?_) hs
  subst ex
  obtain rfl : ov = Value.ref a := rx
  exact setattr_ok I2 ea c n l ry fun s3 I3 => ⟨σ, _, I3, q2⟩
def rAdd : V → V → Hp → VK → Prop := fun x y H Q => ∃ i j, x = .int i ∧ y = .int j ∧ Q (.int (i + j)) H
def rSub : V → V → Hp → VK → Prop := fun x y H Q => ∃ i j, x = .int i ∧ y = .int j ∧ Q (.int (i - j)) H
theorem methcall_of {pl : Sem Bool} {m : Str} {apos : Pos} {args : List Expr} {pins : List (Addr × Obj)} {s : Shared} {σ : St} {H : Hp} {Q : Value → Shared → Prop} {te : TE} (he : PE X e te) (I : Inv X pins σ H s)
    (h : te σ H fun x H1 => ∃ a C dx fs g, x = .ref a ∧ H1 a = some (.ins C dx fs) ∧ Cls X.K C ∧ Meth X.K C m g ∧ fs.lookup m = none ∧
      ∀ s1, Inv X pins σ H1 s1 → wpAny (model X.prog X.w) X.A (callWith pos (.ref g) [.ref a] (backTo pos (starEach args X.env)) (backToKw pos (keywordEach [] X.env))) Q X.xe s1)
    (ht : eval (.Call (.Attribute e m apos) args [] pos) X.env = (do
      let ov ← eval e X.env
      standAt apos.atName
      let (f, first) ← holding [ov] (getMethod ov m pl)
      callWith pos f first (backTo pos (starEach args X.env)) (backToKw pos (keywordEach [] X.env)))) :
    wpAny (model X.prog X.w) X.A (eval (.Call (.Attribute e m apos) args [] pos) X.env) Q X.xe s := by
  refine PySem.W.methodCall_KW (pl := pl) (thn (he pins s σ H _ I h) fun u s1 ⟨x, H1, I1, rx, a, C, dx, fs, g, ex, ea, c, k, l, q⟩ => ?_) ht
  subst ex
  obtain rfl : u = Value.ref a := rx
  exact getmeth_ok I1 ea c k l (q s1 I1)
end

section
variable {X : Cx} {pins : List (Addr × Obj)} {σ : St} {H : Hp} {s : Shared} {A : Around} {E : Value → Shared → Prop} {Q : Value → Shared → Prop} {c : Value} {b : Bool}
inductive TyOf (K : PySem.W.Frag) (H : Hp) : V → Value → Prop where
  | non : TyOf K H .non (.type "NoneType")
  | bl (x : Bool) : TyOf K H (.bl x) (.type "bool")
  | int (i : Int) : TyOf K H (.int i) (.type "int")
  | str (x : Str) : TyOf K H (.str x) (.type "str")
  | flt (x : UInt64) : TyOf K H (.flt x) (.type "float")
  | lst {a : Addr} {xs : List V} (e : H a = some (.lst xs)) : TyOf K H (.ref a) (.type "list")
  | frz {a : Addr} {o : Obj} {xs : List V} (e : H a = some (.frz o (.lst xs))) : TyOf K H (.ref a) (.type "list")
  | tup {a : Addr} {xs : List V} (e : H a = some (.tup xs)) : TyOf K H (.ref a) (.type "tuple")
  | dK {a : Addr} {kvs : List (Key × V)} (e : H a = some (.dK kvs)) : TyOf K H (.ref a) (.type "dict")
  | dT {a : Addr} {kvs : List (List Key × V)} (e : H a = some (.dT kvs)) : TyOf K H (.ref a) (.type "dict")
  | ins {a C dx : Addr} {fs : List (Str × V)} (e : H a = some (.ins C dx fs)) (cl : Cls K C) (ha : PySem.W.findIn K (.ref C) "__class__" = some (some (.builtin "object.__class__")))
      (hn : PySem.W.specialIn K (.builtin "object.__class__") "__get__" = some (some (.builtin "getset_descriptor.__get__"))) (htk : PySem.W.takesIn K (.builtin "object.__class__") = some true)
      (hm : PySem.W.mroIn K C (.type "object") = some true) : TyOf K H (.ref a) (.ref C)
theorem isinst_ok {x : V} {u t : Value} (I : Inv X pins σ H s) (rx : RelV x u) (ty : TyOf X.K H x t) (e : PySem.W.kitOne X.K t c = some b) (h : ∀ tk, Q (.bool b) { s with toks := tk }) :
    wpAny (model X.prog X.w) A (call (.builtin "isinstance") [u, c]) Q E s := by
  cases ty with
  | non => cases (show u = Value.none from rx); exact PySem.W.kia_one PySem.W.kitx_none I.kIn True.intro e (fun z => nomatch z) h
  | bl y => cases (show u = Value.bool y from rx); exact PySem.W.kia_one PySem.W.kitx_bool I.kIn True.intro e (fun z => nomatch z) h
  | int i => obtain ⟨t, q⟩ := (show ∃ t, u = Value.int i t from rx); cases q; exact PySem.W.kia_one PySem.W.kitx_int I.kIn True.intro e (fun z => nomatch z) h
  | str y => obtain ⟨t, q⟩ := (show ∃ t, u = Value.str y t from rx); cases q; exact PySem.W.kia_one PySem.W.kitx_str I.kIn True.intro e (fun z => nomatch z) h
  | flt y => obtain ⟨t, q⟩ := (show ∃ t, u = Value.float y t from rx); cases q; exact PySem.W.kia_one PySem.W.kitx_float I.kIn True.intro e (fun z => nomatch z) h
  | @lst a xs ea =>
    cases (show u = Value.ref a from rx)
    obtain ⟨_, _, n, _, h1⟩ := (show ObjOk X.prog X.w H s.heap a (.lst xs) from I.hok a _ ea)
    exact PySem.W.kia_one PySem.W.kitx_list I.kIn ⟨_, h1, rfl⟩ e (fun z => nomatch z) h
  | @frz a ob xs ea =>
    cases (show u = Value.ref a from rx)
    obtain ⟨_, _, _, n, _, h1⟩ := (show ObjOk X.prog X.w H s.heap a (.frz ob (.lst xs)) from I.hok a _ ea)
    exact PySem.W.kia_one PySem.W.kitx_list I.kIn ⟨_, h1, rfl⟩ e (fun z => nomatch z) h
  | @tup a xs ea =>
    cases (show u = Value.ref a from rx)
    obtain ⟨_, _, _, p⟩ := (show ObjOk X.prog X.w H s.heap a (.tup xs) from I.hok a _ ea)
    obtain ⟨o, h1, h2, _⟩ := p
    exact PySem.W.kia_one PySem.W.kitx_tuple I.kIn ⟨o, h1, h2⟩ e (fun z => nomatch z) h
  | @dK a kvs ea =>
    cases (show u = Value.ref a from rx)
    obtain ⟨_, _, vs, _, p⟩ := (show ObjOk X.prog X.w H s.heap a (.dK kvs) from I.hok a _ ea)
    obtain ⟨o, es, ep, h1, h2, _⟩ := p
    exact PySem.W.kia_one PySem.W.kitx_dict I.kIn ⟨o, h1, h2.1⟩ e (fun z => nomatch z) h
  | @dT a kvs ea =>
    cases (show u = Value.ref a from rx)
    obtain ⟨_, _, xs, _, o, es, ep, h1, h2, _⟩ := (show ObjOk X.prog X.w H s.heap a (.dT kvs) from I.hok a _ ea)
    exact PySem.W.kia_one PySem.W.kitx_dict I.kIn ⟨o, h1, h2.1⟩ e (fun z => nomatch z) h
  | @ins a C dx fs ea cl ha hn htk hm =>
    cases (show u = Value.ref a from rx)
    obtain ⟨mA, O, _⟩ := ins_get I.hok ea
    obtain ⟨od, J, _⟩ := O.look
    exact PySem.W.kia_one (PySem.W.kitx_own (cl.get _) cl.hd ha hn htk hm) I.kIn J e (fun z => nomatch z) h
end
end L2

namespace L2
open PySem PySem.Spec PyProof.Rows

structure Room (k : Nat) (A : Around) : Prop where
  hd : A.handled = none
  dp : A.depth + 3 * k + 5 < recursionLimit
  un : A.units + 16 * k + 200 < cLine
theorem Room.mono {j k : Nat} {A : Around} (r : Room k A) (h : j ≤ k) : Room j A := ⟨r.hd, by have := r.dp; omega, by have := r.un; omega⟩
theorem Room.deeper {k : Nat} {A : Around} (r : Room (k + 1) A) (env : Env) : Room k (A.deeper env) :=
  ⟨r.hd, by have := r.dp; show A.depth + 1 + 3 * k + 5 < _; omega, by have := r.un; show A.units + 3 + 16 * k + 200 < _; omega⟩
theorem make_depth {A : Around} {C : Addr} {us : List Value} {kw : List (Str × Value)} : (A.under (.builtin "type.__call__" ⟨.ref C :: us, kw⟩)).depth = A.depth + 1 := by
  first | rfl | simp [Around.under, Code.weight, Code.isCreation, Code.isGuard, Code.isCaller, Code.frames, Code.isFrame, guardIds]
theorem make_units {A : Around} {C : Addr} {us : List Value} {kw : List (Str × Value)} : (A.under (.builtin "type.__call__" ⟨.ref C :: us, kw⟩)).units = A.units + 1 := by
  first | rfl | simp [Around.under, Code.cUnits, Code.frames, Code.isFrame]
theorem Room.make {k : Nat} {A : Around} (r : Room (k + 1) A) (C : Addr) (us : List Value) (kw : List (Str × Value)) : Room k (A.under (.builtin "type.__call__" ⟨.ref C :: us, kw⟩)) :=
  ⟨r.hd, by have := r.dp; rw [make_depth]; omega, by have := r.un; rw [make_units]; omega⟩
theorem Room.depth {k : Nat} {A : Around} (r : Room k A) : A.depth < recursionLimit := by have := r.dp; omega
theorem Room.units {k : Nat} {A : Around} (r : Room k A) : A.units + 64 < cLine := by have := r.un; omega
def tNil : TA := fun _ H Q => Q [] H
def tCons (ta : TE) (tr : TA) : TA := fun σ H Q => ta σ H fun x H1 => tr σ H1 fun xs H2 => Q (x :: xs) H2
section
variable {X : Cx} {e : Expr} {es : List Expr} {te : TE} {t : TA} {pos : Pos}
theorem pa_nil : PA X [] tNil := fun _ _ _ _ H Q I h => Calls.spliced_nil ⟨[], H, I, .nil, h⟩
theorem pa_cons (ha : PE X e te) (hr : PA X es t) (hs : starEach (e :: es) X.env = (false, eval e X.env) :: starEach es X.env := by rfl) : PA X (e :: es) (tCons te t) := by
  intro pos pins s σ H Q I h
  rw [hs]
  show wpAny _ _ (spliced ((false, eval e X.env) :: backTo pos (starEach es X.env))) _ _ s
  refine Calls.spliced_cons (thn (ha pins s σ H _ I h) fun u s1 ⟨x, H1, I1, r1, q1⟩ => ?_)
  exact thn (hr pos pins s1 σ H1 _ I1 q1) fun us s2 ⟨xs, H2, I2, r2, q2⟩ => ⟨x :: xs, H2, I2, .cons r1 r2, q2⟩

def tTup (t : TA) : TE := fun σ H Q => t σ H fun xs H1 => xs.length ≤ sizeLine ∧ ∀ p, H1 p = none → Q (.ref p) (upd H1 p (.tup xs))
def tLst (t : TA) : TE := fun σ H Q => t σ H fun xs H1 => xs.length ≤ sizeLine ∧ ∀ p, H1 p = none → Q (.ref p) (upd H1 p (.lst xs))
theorem pe_tup {x1} (h : PA X es t) : PE X (.Tuple es x1 pos) (tTup t) := by
  intro pins s σ H Q I hq
  refine wpAny_Tuple_spliced (thn (h pos pins s σ H _ I hq) fun us s1 ⟨xs, H1, I1, r, z, q⟩ => ⟨by rw [← r.length]; exact z, ?_⟩)
  have hf : H1 s1.heap.objs.size = none := I1.hok.fresh (Nat.le_refl _)
  refine ⟨.ref s1.heap.objs.size, upd H1 s1.heap.objs.size (.tup xs), I1.laid (t' := s1.toks) (fun b u e => Heap.get?_push_of_some _ e) (Nat.le_refl _) ?_, rfl, q _ hf⟩
  exact ⟨z, us, r, ⟨_, Heap.get?_push_size _ rfl, rfl, _, rfl⟩⟩
theorem pe_lst (h : PA X es t) : PE X (.List es pos) (tLst t) := by
  intro pins s σ H Q I hq
  refine wpAny_List_spliced (thn (h pos pins s σ H _ I hq) fun us s1 ⟨xs, H1, I1, r, z, q⟩ => ⟨by rw [← r.length]; exact z, ?_⟩)
  have hf : H1 s1.heap.objs.size = none := I1.hok.fresh (Nat.le_refl _)
  refine ⟨.ref s1.heap.objs.size, upd H1 s1.heap.objs.size (.lst xs), I1.laid (t' := s1.toks) (fun b u e => Heap.get?_push_of_some _ e) (Nat.le_refl _) ?_, rfl, q _ hf⟩
  exact ⟨z, us, 0, r, Heap.get?_push_size _ rfl⟩
end

abbrev Sp := List V → Hp → VK → XK → Prop
abbrev CXT := List Env → Hp → Shared → XK → Value → Shared → Prop

structure Env0 (P : Program) (w : World) (K : PySem.W.Frag) (mg : Str → Option Value) (base : Heap) (A : Around) (outer : List Env) (s : Shared) (H : Hp) : Prop where
  frames : A.frames = some outer
  mod : Mod K mg base
  bs : ∀ b o, base.get? b = some o → s.heap.get? b = some o ∧ H b = none
  bsz : base.objs.size ≤ s.heap.objs.size
  funs : s.heap.FunFrames base outer
  frf : ∀ b ∈ frs outer, H b = none
  hok : HOk P w H s.heap
  bare : AllBare s.gens
def CE (outer : List Env) (P : Program) (w : World) (H : Hp) (s : Shared) (Q : VK) (u : Value) (s' : Shared) : Prop :=
  ∃ v H', s'.os = s.os ∧ AllBare s'.gens ∧ Un (frs outer) [] H H' s.heap s'.heap ∧ HOk P w H' s'.heap ∧ RelV v u ∧ Q v H'
def CR (CX : CXT) (outer : List Env) (P : Program) (w : World) (H : Hp) (s : Shared) (Q : VK) (E : XK) (r : Result) (s' : Shared) : Prop :=
  match r with
  | .ok (.ret u) => CE outer P w H s Q u s'
  | .ok _ => False
  | .error e => CX outer H s E e s'
structure FnOk (P : Program) (w : World) (K : PySem.W.Frag) (mg : Str → Option Value) (base : Heap) (CX : CXT) (k : Nat) (f : Addr) (fd : FuncData) (ps : List Str) (sp : Sp) : Prop where
  len : ∀ vs H Q E, sp vs H Q E → vs.length = ps.length
  run : ∀ (A : Around) (outer : List Env) (s : Shared) (H : Hp) (args : Args) (us : List Value) (vs : List V) (Q : VK) (E : XK), Room k A → Env0 P w K mg base A outer s H → BindsTo s fd args (ps.zip us) → Vals vs us → sp vs H Q E →
    codeAny (model P w) A (.call (.ref f) args) (CR CX outer P w H s Q E) s
theorem FnOk.mono {P : Program} {w : World} {K : PySem.W.Frag} {mg : Str → Option Value} {base : Heap} {CX : CXT} {j k : Nat} {f : Addr} {fd : FuncData} {ps : List Str} {sp : Sp} (F : FnOk P w K mg base CX j f fd ps sp) (h : j ≤ k) :
    FnOk P w K mg base CX k f fd ps sp := ⟨F.len, fun A outer s H args us vs Q E hr => F.run A outer s H args us vs Q E (hr.mono h)⟩
theorem Env0.make {P : Program} {w : World} {K : PySem.W.Frag} {mg : Str → Option Value} {base : Heap} {A : Around} {outer : List Env} {s : Shared} {H : Hp} (e : Env0 P w K mg base A outer s H) (C : Addr) (us : List Value) (kw : List (Str × Value)) :
    Env0 P w K mg base (A.under (.builtin "type.__call__" ⟨.ref C :: us, kw⟩)) outer s H := ⟨by first | exact e.frames | (simpa [Around.under, Code.envs, Code.isFrame, pushEnvs] using e.frames), e.mod, e.bs, e.bsz, e.funs, e.frf, e.hok, e.bare⟩
section
variable {X : Cx} {pins : List (Addr × Obj)} {σ : St} {H : Hp} {s s' : Shared}
theorem Inv.env0 (I : Inv X pins σ H s) : Env0 X.prog X.w X.K X.mg X.base X.A X.stack s H :=
  ⟨I.ok.frames, I.ok.mod, I.bs, Nat.le_trans I.ok.bsz I.sz, I.stack, I.stkFree, I.hok, I.bare⟩
theorem Inv.after {Q : VK} {u : Value} (I : Inv X pins σ H s) (h : CE X.stack X.prog X.w H s Q u s') : EP X pins σ Q u s' := by
  obtain ⟨v, H', os, bare, un, hok, r, q⟩ := h
  obtain ⟨hh, g, d, t, os'⟩ := s'
  obtain rfl : os' = s.os := os
  exact ⟨v, H', I.call (h' := hh) (g' := g) (d' := d) (t' := t) (ch := []) un hok bare (fun b z => absurd z (by simp)), r, q⟩
end

def tCall (sp : Sp) (dvs : List V) (E : XK) (t : TA) : TE := fun σ H Q => t σ H fun vs H1 => sp (vs ++ dvs) H1 Q E
def tMeth (C : Addr) (m : Str) (sp : Sp) (dvs : List V) (E : XK) (ta : TE) (t : TA) : TE := fun σ H Q => ta σ H fun x H1 => ∃ a dx fs, x = .ref a ∧ H1 a = some (.ins C dx fs) ∧ fs.lookup m = none ∧
  t σ H1 fun vs H2 => sp (x :: (vs ++ dvs)) H2 Q E
def tMake (C : Addr) (sp : Sp) (dvs : List V) (E : XK) (t : TA) : TE := fun σ H Q => t σ H fun vs H1 => ∀ x dx, H1 x = none → H1 dx = none → dx ≠ x →
  sp (.ref x :: (vs ++ dvs)) (upd (upd H1 dx (.own x)) x (.ins C dx [])) (fun v H2 => v = .non ∧ Q (.ref x) H2) E

def Binds (K : PySem.W.Frag) (fd : FuncData) (ps : List Str) (ds : List Value) : Prop :=
  ∀ (s : Shared) (us : List Value), K.In s.heap → (us ++ ds).length = ps.length → BindsTo s fd ⟨us, []⟩ (ps.zip (us ++ ds))
theorem Binds.all {K : PySem.W.Frag} {fd : FuncData} {ps : List Str} (h : ∀ us : List Value, us.length = ps.length → bindArgs fd ⟨us, []⟩ = pure (ps.zip us)) : Binds K fd ps [] := fun s us _ hl => by
  rw [List.append_nil] at hl ⊢
  exact .of_eq (h us hl)

def Passes (CX : CXT) (X : Cx) (E : XK) : Prop := ∀ (pins : List (Addr × Obj)) (σ : St) (H : Hp) (s : Shared) (e : Value) (s' : Shared), Inv X pins σ H s → CX X.stack H s E e s' → X.xe e s'

section
variable {X : Cx} {CX : CXT} {k : Nat} {f C : Addr} {fd : FuncData} {ps : List Str} {sp : Sp} {dvs : List V} {ds : List Value} {E : XK} {x m : Str} {p pos apos : Pos} {e o : Expr} {es : List Expr} {ta : TE} {t : TA}

theorem run_fn {pins : List (Addr × Obj)} {σ : St} {H : Hp} {s : Shared} {Q : VK} {us : List Value} {vs : List V} (F : FnOk X.prog X.w X.K X.mg X.base CX k f fd ps sp) (hr : Room k X.A) (hb : Binds X.K fd ps ds) (hd : Vals dvs ds) (hx : Passes CX X E)
    (I : Inv X pins σ H s) (r : Vals vs us) (h : sp (vs ++ dvs) H Q E) : wpAny (model X.prog X.w) X.A (call (.ref f) us) (EP X pins σ Q) X.xe s := by
  have r2 : Vals (vs ++ dvs) (us ++ ds) := r.append hd
  have hl : (us ++ ds).length = ps.length := by rw [← r2.length]; exact F.len _ _ _ _ h
  refine wpAny_call (codeAny_mono (F.run X.A X.stack s H ⟨us, []⟩ (us ++ ds) (vs ++ dvs) Q E hr I.env0 (hb s us I.kIn hl) r2 h) fun r s' hq => ?_)
  cases r with
  | error e => exact hx pins σ H s e s' I hq
  | ok fl =>
    cases fl with
    | ret u => exact I.after hq
    | next => exact False.elim hq
    | brk => exact False.elim hq
    | cont => exact False.elim hq

theorem pe_call (F : FnOk X.prog X.w X.K X.mg X.base CX k f fd ps sp) (hr : Room k X.A) (hg : Gl X x) (hm : X.mg x = some (.ref f)) (hk : PySem.W.keepIn X.K (.ref f) = true) (hb : Binds X.K fd ps ds) (hd : Vals dvs ds) (hx : Passes CX X E)
    (ha : PA X (e :: es) t) (hdb : (x == ("__debug__" : Str)) = false := by decide) (he : starEach (e :: es) X.env = (false, eval e X.env) :: starEach es X.env := by rfl) (hpl : (backTo pos (starEach es X.env)).any (·.1) = false := by rfl) :
    PE X (.Call (.Name x p) (e :: es) [] pos) (tCall sp dvs E t) := by
  intro pins s σ H Q I h
  refine wpAny_Call_Name_kw (ld_glob I hg hm ?_ hdb)
  refine PySem.W.callWith_K (h₀ := X.base) I.ok.mod.kin hk (thn (ha pos pins s σ H _ I h) fun us s1 ⟨vs, H1, I1, r, q⟩ => ⟨I1.kIn, ?_⟩) he hpl
  exact run_fn F hr hb hd hx I1 r q
theorem pe_meth {pl : Sem Bool} (he : PE X o ta) (c : Cls X.K C) (hm : Meth X.K C m f) (F : FnOk X.prog X.w X.K X.mg X.base CX k f fd ps sp) (hr : Room k X.A) (hb : Binds X.K fd ps ds) (hd : Vals dvs ds) (hx : Passes CX X E) (ha : PA X (e :: es) t)
    (hst : starEach (e :: es) X.env = (false, eval e X.env) :: starEach es X.env := by rfl) (hpl : (backTo pos (starEach es X.env)).any (·.1) = false := by rfl)
    (ht : eval (.Call (.Attribute o m apos) (e :: es) [] pos) X.env = (do
      let ov ← eval o X.env
      standAt apos.atName
      let (f, first) ← holding [ov] (getMethod ov m pl)
      callWith pos f first (backTo pos (starEach (e :: es) X.env)) (backToKw pos (keywordEach [] X.env))) := by rfl) :
    PE X (.Call (.Attribute o m apos) (e :: es) [] pos) (tMeth C m sp dvs E ta t) := by
  intro pins s σ H Q I h
  refine PySem.W.methodCall_KW (pl := pl) (thn (he pins s σ H _ I h) fun u s1 ⟨x, H1, I1, rx, a, dx, fs, ex, ea, l, q⟩ => ?_) ht
  subst ex
  obtain rfl : u = Value.ref a := rx
  refine getmeth_ok I1 ea c hm l ?_
  refine PySem.W.callWith_K (first := [.ref a]) (h₀ := X.base) I.ok.mod.kin hm.kp (thn (ha pos pins s1 σ H1 _ I1 q) fun us s2 ⟨vs, H2, I2, r, q2⟩ => ⟨I2.kIn, ?_⟩) hst hpl
  exact run_fn (us := .ref a :: us) (vs := .ref a :: vs) F hr hb hd hx I2 (.cons rfl r) q2
theorem pe_meth0 {pl : Sem Bool} (he : PE X o ta) (c : Cls X.K C) (hm : Meth X.K C m f) (F : FnOk X.prog X.w X.K X.mg X.base CX k f fd ps sp) (hr : Room k X.A) (hb : Binds X.K fd ps ds) (hd : Vals dvs ds) (hx : Passes CX X E)
    (ht : eval (.Call (.Attribute o m apos) [] [] pos) X.env = (do
      let ov ← eval o X.env
      standAt apos.atName
      let (f, first) ← holding [ov] (getMethod ov m pl)
      callWith pos f first (backTo pos (starEach [] X.env)) (backToKw pos (keywordEach [] X.env))) := by rfl) :
    PE X (.Call (.Attribute o m apos) [] [] pos) (tMeth C m sp dvs E ta tNil) := by
  intro pins s σ H Q I h
  refine PySem.W.methodCall_KW (pl := pl) (thn (he pins s σ H _ I h) fun u s1 ⟨x, H1, I1, rx, a, dx, fs, ex, ea, l, q⟩ => ?_) ht
  subst ex
  obtain rfl : u = Value.ref a := rx
  refine getmeth_ok I1 ea c hm l ?_
  exact PySem.W.callWith_K0 (first := [.ref a]) I1.kIn hm.kp (run_fn (us := [.ref a]) (vs := [.ref a]) F hr hb hd hx I1 (.cons rfl .nil) q)

structure Mk (K : PySem.W.Frag) (C f : Addr) : Prop where
  makes : PySem.W.makesIn K C = true
  init : PySem.W.findIn K (.ref C) "__init__" = some (some (.ref f))
  fn : PySem.W.isFn K (.ref f) = true
  kp : PySem.W.keepIn K (.ref C) = true

theorem run_make {pins : List (Addr × Obj)} {σ : St} {H : Hp} {s : Shared} {Q : VK} {us : List Value} {vs : List V} (M : Mk X.K C f) (F : FnOk X.prog X.w X.K X.mg X.base CX k f fd ps sp) (hr : Room (k + 1) X.A) (hb : Binds X.K fd ps ds) (hd : Vals dvs ds)
    (hx : Passes CX X E) (I : Inv X pins σ H s) (r : Vals vs us)
    (h : ∀ x dx, H x = none → H dx = none → dx ≠ x → sp (.ref x :: (vs ++ dvs)) (upd (upd H dx (.own x)) x (.ins C dx [])) (fun v H2 => v = .non ∧ Q (.ref x) H2) E) :
    wpAny (model X.prog X.w) X.A (call (.ref C) us) (EP X pins σ Q) X.xe s := by
  have hq := h (s.heap.objs.size + 1) s.heap.objs.size (I.hok.fresh (Nat.le_succ _)) (I.hok.fresh (Nat.le_refl _)) (Nat.ne_of_lt (Nat.lt_succ_self _))
  have I2 := Inv.made (C := C) I
  have r2 : Vals (V.ref (s.heap.objs.size + 1) :: (vs ++ dvs)) (Value.ref (s.heap.objs.size + 1) :: (us ++ ds)) := .cons rfl (r.append hd)
  have hl : (Value.ref (s.heap.objs.size + 1) :: us ++ ds).length = ps.length := by
    have e := r2.length
    rw [F.len _ _ _ _ hq] at e
    exact e.symm
  refine wpAny_call (make_map (f := f) I.kIn M.makes M.init (beq_iff_eq.mp M.fn) (codeAny_mono (F.run _ X.stack _ _ ⟨Value.ref (s.heap.objs.size + 1) :: us, []⟩ (Value.ref (s.heap.objs.size + 1) :: (us ++ ds)) _ _ E (hr.make C us [])
    (I2.env0.make C us []) (hb _ (Value.ref (s.heap.objs.size + 1) :: us) I2.kIn hl) r2 hq) fun r s' hq' => ?_))
  cases r with
  | error e => exact hx pins σ _ _ e s' I2 hq'
  | ok fl =>
    cases fl with
    | ret u =>
      obtain ⟨v, H', I3, rv, ev, q3⟩ := I2.after hq'
      subst ev
      exact ⟨rv, ⟨V.ref (s.heap.objs.size + 1), H', I3, rfl, q3⟩⟩
    | next => exact False.elim hq'
    | brk => exact False.elim hq'
    | cont => exact False.elim hq'
theorem pe_make (M : Mk X.K C f) (F : FnOk X.prog X.w X.K X.mg X.base CX k f fd ps sp) (hr : Room (k + 1) X.A) (hg : Gl X x) (hm : X.mg x = some (.ref C)) (hb : Binds X.K fd ps ds) (hd : Vals dvs ds) (hx : Passes CX X E)
    (ha : PA X (e :: es) t) (hdb : (x == ("__debug__" : Str)) = false := by decide) (he : starEach (e :: es) X.env = (false, eval e X.env) :: starEach es X.env := by rfl) (hpl : (backTo pos (starEach es X.env)).any (·.1) = false := by rfl) :
    PE X (.Call (.Name x p) (e :: es) [] pos) (tMake C sp dvs E t) := by
  intro pins s σ H Q I h
  refine wpAny_Call_Name_kw (ld_glob I hg hm ?_ hdb)
  refine PySem.W.callWith_K (h₀ := X.base) I.ok.mod.kin M.kp (thn (ha pos pins s σ H _ I h) fun us s1 ⟨vs, H1, I1, r, q⟩ => ⟨I1.kIn, ?_⟩) he hpl
  exact run_make M F hr hb hd hx I1 r q
theorem pe_make0 (M : Mk X.K C f) (F : FnOk X.prog X.w X.K X.mg X.base CX k f fd ps sp) (hr : Room (k + 1) X.A) (hg : Gl X x) (hm : X.mg x = some (.ref C)) (hb : Binds X.K fd ps ds) (hd : Vals dvs ds) (hx : Passes CX X E)
    (hdb : (x == ("__debug__" : Str)) = false := by decide) : PE X (.Call (.Name x p) [] [] pos) (tMake C sp dvs E tNil) := by
  intro pins s σ H Q I h
  refine wpAny_Call_Name_kw (ld_glob I hg hm ?_ hdb)
  exact PySem.W.callWith_K0 I.kIn M.kp (run_make (us := []) M F hr hb hd hx I .nil h)
end

def PK (X : Cx) (kws : List Keyword) (t : TA) : Prop :=
  ∀ (pos : Pos) (pins : List (Addr × Obj)) (s : Shared) (σ : St) (H : Hp) (Q : List V → Hp → Prop), Inv X pins σ H s → t σ H Q → wpAny (model X.prog X.w) X.A (evalAll ((backToKw pos (keywordEach kws X.env)).map (·.2))) (AP X pins σ Q) X.xe s
section
variable {X : Cx} {CX : CXT} {k : Nat} {f C : Addr} {fd : FuncData} {ps ks : List Str} {sp : Sp} {E : XK} {x m : Str} {p pos apos kpos : Pos} {e o : Expr} {es : List Expr} {kws : List Keyword} {te ta : TE} {t tk : TA} {nm : Option Str}
structure KBinds (K : PySem.W.Frag) (fd : FuncData) (ps ks : List Str) (g : List Value → List Value → List Value) (gV : List V → List V → List V) : Prop where
  to : ∀ (s : Shared) (us ws : List Value), K.In s.heap → (g us ws).length = ps.length → BindsTo s fd ⟨us, ks.zip ws⟩ (ps.zip (g us ws))
  rel : ∀ {vs : List V} {us : List Value} {zs : List V} {ws : List Value}, Vals vs us → Vals zs ws → Vals (gV vs zs) (g us ws)
def tCallK (sp : Sp) (gV : List V → List V → List V) (E : XK) (t tk : TA) : TE := fun σ H Q => t σ H fun vs H1 => tk σ H1 fun zs H2 => sp (gV vs zs) H2 Q E
variable {g : List Value → List Value → List Value} {gV : List V → List V → List V}
end

structure FnScope (N P : List Str) (sc : Scope) : Prop where
  kind : sc.kind = .function
  co : sc.isCoroutine = false
  gen : sc.isGenerator = false
  nd : N.Nodup
  pre : N.take P.length = P
  par : ∀ x ∈ P, sc.names.lookup x = some .local ∨ sc.names.lookup x = some .cell
  nofree : ∀ y ∈ sc.names, y.2 ≠ .free

theorem bindL_out {kindOf : Str → Option NameKind} {x : Str} : ∀ {binds : List (Str × Value)} {m : Str → Option Value}, (∀ v, (x, v) ∉ binds) → bindL kindOf binds m x = m x
  | [], _, _ => rfl
  | (n, v) :: r, m, h => by
    unfold bindL
    rw [bindL_out fun w hw => h w (List.mem_cons_of_mem _ hw)]
    split
    · have : x ≠ n := by rintro rfl; exact h v List.mem_cons_self
      simp [this]
    · rfl
theorem bindC_out {kindOf : Str → Option NameKind} {x : Str} : ∀ {binds : List (Str × Value)} {m : Str → Option Value}, (∀ v, (x, v) ∉ binds) → bindC kindOf binds m x = m x
  | [], _, _ => rfl
  | (n, v) :: r, m, h => by
    unfold bindC
    rw [bindC_out fun w hw => h w (List.mem_cons_of_mem _ hw)]
    split
    · rfl
    · have : x ≠ n := by rintro rfl; exact h v List.mem_cons_self
      simp [this]
theorem bindL_get {kindOf : Str → Option NameKind} {x : Str} {v : Value} : ∀ {P : List Str} {vs : List Value} {i : Nat} {m : Str → Option Value}, P.Nodup → P[i]? = some x → vs[i]? = some v → kindOf x = some .local →
    bindL kindOf (P.zip vs) m x = some v
  | [], _, _, _, _, h, _, _ => by simp at h
  | _ :: _, [], _, _, _, _, h, _ => by simp at h
  | p :: P, w :: vs, 0, m, nd, h1, h2, hk => by
    simp at h1 h2; subst h1; subst h2
    show bindL kindOf ((p, w) :: P.zip vs) m p = _
    unfold bindL
    rw [bindL_out fun v hv => (List.nodup_cons.mp nd).1 (List.of_mem_zip hv).1, if_pos hk]
    simp
  | p :: P, w :: vs, i + 1, m, nd, h1, h2, hk => by
    show bindL kindOf ((p, w) :: P.zip vs) m x = _
    unfold bindL
    exact bindL_get (i := i) (List.nodup_cons.mp nd).2 (by simpa using h1) (by simpa using h2) hk
theorem bindC_get {kindOf : Str → Option NameKind} {x : Str} {v : Value} : ∀ {P : List Str} {vs : List Value} {i : Nat} {m : Str → Option Value}, P.Nodup → P[i]? = some x → vs[i]? = some v → kindOf x ≠ some .local →
    bindC kindOf (P.zip vs) m x = some v
  | [], _, _, _, _, h, _, _ => by simp at h
  | _ :: _, [], _, _, _, _, h, _ => by simp at h
  | p :: P, w :: vs, 0, m, nd, h1, h2, hk => by
    simp at h1 h2; subst h1; subst h2
    show bindC kindOf ((p, w) :: P.zip vs) m p = _
    unfold bindC
    rw [bindC_out fun v hv => (List.nodup_cons.mp nd).1 (List.of_mem_zip hv).1, if_neg hk]
    simp
  | p :: P, w :: vs, i + 1, m, nd, h1, h2, hk => by
    show bindC kindOf ((p, w) :: P.zip vs) m x = _
    unfold bindC
    exact bindC_get (i := i) (List.nodup_cons.mp nd).2 (by simpa using h1) (by simpa using h2) hk

def start (N : List Str) (vs : List V) : St := vs.map some ++ List.replicate (N.length - vs.length) none

def cxOf (CX : CXT) (P : Program) (w : World) (K : PySem.W.Frag) (mg : Str → Option Value) (base : Heap) (N : List Str) (qual : Str) (scope : Scope) (f : Addr) (cd : Value) (A : Around) (outer : List Env) (s : Shared) (H : Hp) (E : XK) : Cx where
  prog := P
  w := w
  K := K
  mg := mg
  base := base
  A := A.deeper (envOfC qual scope s.heap.objs.size f cd)
  N := N
  s₀ := s
  H₀ := H
  env := envOfC qual scope s.heap.objs.size f cd
  outer := outer
  stack := envOfC qual scope s.heap.objs.size f cd :: outer
  ex := []
  calm := true
  fn := fun _ => true
  pn := []
  xe := fun e s' => wpAny (model P w) (A.deeper (envOfC qual scope s.heap.objs.size f cd)) (leaving (envOfC qual scope s.heap.objs.size f cd) e) (fun _ s'' => CX outer H s E e s'') (fun e' s'' => CX outer H s E e' s'') s'

theorem cell_has {sc : Scope} {n : Nat} {x : Str} (h : sc.names.lookup x = some .cell) : ∃ c, (cellsFrom n sc.names []).lookup x = some c := by
  have q := PySem.W.cellsFrom_some sc.names n [] (.inl h)
  exact Option.isSome_iff_exists.mp q

theorem inv_start {CX : CXT} {P : Program} {w : World} {K : PySem.W.Frag} {mg : Str → Option Value} {base : Heap} {N ps : List Str} {qual : Str} {scope : Scope} {f : Addr} {cd : Value} {A : Around} {outer : List Env} {s s1 : Shared} {H : Hp} {E : XK} {us : List Value} {vs : List V}
    (S : FnScope N ps scope) (hd : A.handled = none) (e0 : Env0 P w K mg base A outer s H) (hl : vs.length = ps.length) (r : Vals vs us)
    (x : InCallC s s.heap.objs.size (bindL (envOfC qual scope s.heap.objs.size f cd).kindOf (ps.zip us) fun _ => none) (cellsFrom (s.heap.objs.size + 1) scope.names []) (bindC (envOfC qual scope s.heap.objs.size f cd).kindOf (ps.zip us) fun _ => none) s1) :
    Inv (cxOf CX P w K mg base N qual scope f cd A outer s H E) [] (start N vs) H s1 := by
  have hpl : ps.length ≤ N.length := by have := congrArg List.length S.pre; rw [List.length_take] at this; omega
  obtain ⟨h1, tk, rfl, hk⟩ := x.done
  have noA : ∀ b : Addr, b ∉ (cxOf CX P w K mg base N qual scope f cd A outer s H E).ex := fun b z => absurd (show b ∈ ([] : List Addr) from z) (by simp)
  refine ⟨⟨e0.mod, S.kind, rfl, rfl, Nat.le_refl _, fun y z c h1 h2 => ?_, fun y hy => ?_, fun y c _ h => ?_, fun _ => hd, Around.frames_deeper e0.frames, .inr ⟨rfl, rfl⟩, fun b z => absurd z (noA b), e0.bs, e0.bsz, fun b _ _ => noA b, fun b z => absurd z (noA b), e0.funs, e0.frf⟩,
    rfl, e0.bare, Un.kept hk, ⟨_, x.toInCall.ns, fun i y v h1 h2 h3 => ?_⟩, fun y c h => ⟨_, x.cell y c h⟩, e0.hok.fresh (Nat.le_refl _), fun y c h => ?_, fun p hp => absurd (show p ∈ ([] : List (Addr × Obj)) from hp) (by simp), e0.hok.kept hk, ?_⟩
  · exact name_of_addr x.apart (PySem.mem_of_lookup h1) (PySem.mem_of_lookup h2)
  · have hy : scope.names.lookup y = some .cell ∨ scope.names.lookup y = some .free := hy
    rcases hy with hy | hy
    · exact cell_has hy
    · exact absurd rfl (S.nofree _ (PySem.mem_of_lookup hy))
  · exact Nat.le_of_lt (x.above y c (PySem.mem_of_lookup h))
  · have hi : i < vs.length := by
      unfold start at h2
      by_cases hi : i < vs.length
      · exact hi
      · rw [List.getElem?_append_right (by simpa using hi)] at h2
        rw [List.getElem?_replicate] at h2
        split at h2 <;> cases h2
    have ha : vs[i]? = some v := by
      unfold start at h2
      rw [List.getElem?_append_left (by simpa using hi), List.getElem?_map] at h2
      cases e : vs[i]? with
      | none => rw [e] at h2; cases h2
      | some a => rw [e] at h2; cases h2; rfl
    obtain ⟨u, hu, rv⟩ := r.get ha
    have hp : ps[i]? = some y := by
      rw [← S.pre, List.getElem?_take_of_lt (by omega)]; exact h1
    have ndP : ps.Nodup := by rw [← S.pre]; exact S.nd.sublist (List.take_sublist _ _)
    refine ⟨u, rv, ?_⟩
    rcases S.par y (List.mem_of_getElem? hp) with k | k
    · exact .inl ⟨k, bindL_get ndP hp hu k⟩
    · obtain ⟨c, e⟩ := cell_has (n := s.heap.objs.size + 1) k
      refine .inr ⟨.inl k, c, e, ?_⟩
      have q := x.cell y c e
      rw [bindC_get ndP hp hu (by show scope.names.lookup y ≠ _; rw [k]; decide)] at q
      exact q
  · exact e0.hok.fresh (Nat.le_of_lt (x.above y c (PySem.mem_of_lookup h)))
  · unfold start
    show _ = N.length
    rw [List.length_append, List.length_map, List.length_replicate]
    omega

theorem fn_of {CX : CXT} {P : Program} {w : World} {K : PySem.W.Frag} {mg : Str → Option Value} {base : Heap} {k : Nat} {f : Addr} {name qual : Str} {params : Arguments} {body : List Stmt} {scope : Scope} {dV kV doc pm cdv ct oc : Value} {an od : Option Addr}
    {osl : Array (Option Value)} {N ps : List Str} {sp : Sp} (lk : K.lookup f = some ⟨oc, od, .func (PySem.W.fnOf name qual params body scope dV kV doc pm an cdv ct), osl⟩) (hcd : PySem.W.codeIn K cdv qual = true) (S : FnScope N ps scope)
    (len : ∀ vs H Q E, sp vs H Q E → vs.length = ps.length)
    (hbody : ∀ (A : Around) (outer : List Env) (s : Shared) (H : Hp) (vs : List V) (Q : VK) (E : XK), Room k (A.deeper (envOfC qual scope s.heap.objs.size f cdv)) → sp vs H Q E →
      ∃ t, PSs (cxOf CX P w K mg base N qual scope f cdv A outer s H E) body t ∧ t { nx := fun _ H' => Q .non H', rt := Q } (start N vs) H) :
    FnOk P w K mg base CX (k + 1) f (PySem.W.fnOf name qual params body scope dV kV doc pm an cdv ct) ps sp := by
  refine ⟨len, fun A outer s H args us vs Q E hr e0 hb r hsp => ?_⟩
  have hl := len _ _ _ _ hsp
  have KX : K.In s.heap := e0.mod.kin.keeps fun b o e => (e0.bs b o e).1
  have lim : s.heap.NoLimit := e0.mod.nolimit.keeps fun b o e => (e0.bs b o e).1
  have hkind : ∀ y ∈ ps.zip us, scope.names.lookup y.1 = some .local ∨ (scope.names.lookup y.1 = some .cell ∧ ((cellsFrom (s.heap.objs.size + 1) scope.names []).lookup y.1).isSome = true) := fun ⟨n, v⟩ hy => by
    rcases S.par n (List.of_mem_zip hy).1 with q | q
    · exact .inl q
    · exact .inr ⟨q, PySem.W.cellsFrom_some _ _ _ (.inl q)⟩
  refine codeAny_call_function hr.depth (KX _ _ lk) rfl S.co S.gen rfl (PySem.W.codeRec_of KX hcd) (hb _ _ _ _ ?_)
  refine wpAny_newFunctionEnv_cells S.kind hkind fun env he s1 x => ?_
  subst he
  refine ⟨lim.keeps x.toInCall.keep, codeAny_func ?_⟩
  obtain ⟨t, ht, hq⟩ := hbody A outer s H vs Q E (hr.deeper _) hsp
  have I : Inv (cxOf CX P w K mg base N qual scope f cdv A outer s H E) [] (start N vs) H s1 := inv_start S hr.hd e0 hl r x
  refine wpAny_mono (ht [] s1 (start N vs) H _ I hq) (fun fl s' hs => ?_) fun e s' hs => hs
  have fin : ∀ {σ' : St} {H' : Hp} {v : V} {u : Value}, Inv (cxOf CX P w K mg base N qual scope f cdv A outer s H E) [] σ' H' s' → RelV v u → Q v H' → CE outer P w H s Q u s' :=
    fun {σ' H' v u} J rv q => ⟨v, H', J.os, J.bare, J.base, J.hok, rv, q⟩
  cases fl with
  | ret u =>
    obtain ⟨v, σ', H', J, rv, q⟩ := hs
    exact fin J rv q
  | next =>
    obtain ⟨σ', H', J, q⟩ := hs
    exact fin (v := V.non) (u := Value.none) J rfl q
  | brk =>
    obtain ⟨_, _, _, q⟩ := hs
    exact False.elim q
  | cont =>
    obtain ⟨_, _, _, q⟩ := hs
    exact False.elim q
end L2

namespace L2
open PySem PySem.Spec PyProof.Rows
section
variable {X : Cx} {x : Str} {p pos : Pos} {e : Expr} {es : List Expr} {t : TA} {id T : String} {r : List V → Hp → VK → Prop}

def tCB (r : List V → Hp → VK → Prop) (t : TA) : TE := fun σ H Q => t σ H fun vs H1 => r vs H1 Q
theorem pe_callB (hc : CallR X (.builtin id) r) (hg : Gl X x) (hm : X.mg x = none) (hv : bootBuiltins x = some (.builtin id)) (ha : PA X (e :: es) t) (hn : x ≠ "__name__" := by decide) (hdb : (x == ("__debug__" : Str)) = false := by decide)
    (he : starEach (e :: es) X.env = (false, eval e X.env) :: starEach es X.env := by rfl) (hpl : (backTo pos (starEach es X.env)).any (·.1) = false := by rfl) : PE X (.Call (.Name x p) (e :: es) [] pos) (tCB r t) := by
  intro pins s σ H Q I h
  refine wpAny_Call_Name_kw (ld_blt I hg hm hv ?_ hn hdb)
  exact PyProof.Rows.callWith_builtin1 (thn (ha pos pins s σ H _ I h) fun us s1 ⟨vs, H1, I1, r1, q1⟩ => hc pins s1 σ H1 vs us Q I1 r1 q1) he hpl
theorem pe_callTy (hc : CallR X (.type T) r) (hg : Gl X x) (hm : X.mg x = none) (hv : bootBuiltins x = some (.type T)) (ha : PA X (e :: es) t) (hn : x ≠ "__name__" := by decide) (hdb : (x == ("__debug__" : Str)) = false := by decide)
    (he : starEach (e :: es) X.env = (false, eval e X.env) :: starEach es X.env := by rfl) (hpl : (backTo pos (starEach es X.env)).any (·.1) = false := by rfl) : PE X (.Call (.Name x p) (e :: es) [] pos) (tCB r t) := by
  intro pins s σ H Q I h
  refine wpAny_Call_Name_kw (ld_blt I hg hm hv ?_ hn hdb)
  exact PyProof.Rows.callWith_type1 (thn (ha pos pins s σ H _ I h) fun us s1 ⟨vs, H1, I1, r1, q1⟩ => hc pins s1 σ H1 vs us Q I1 r1 q1) he hpl
end
end L2

namespace HT
open PySem PyProof.Rows

def lexLt : List Int → List Int → Bool
  | [], [] => false
  | [], _ :: _ => true
  | _ :: _, [] => false
  | x :: xs, y :: ys => if x = y then lexLt xs ys else decide (x < y)
section
open PySem.SeqAt
open PySem.AutoSeq1 (wpAny_loadPart')
open PySem.MeetsSeq PySem.MeetsSeq2 PySem.MeetsSeq3

end

section
variable {prog : Program} {w : World} {A : Around} {E : Value → Shared → Prop} {s : Shared}

def sIx (n d : Nat) : Option Int → Nat
  | none => d
  | some v => if v < 0 then (v + (n : Int)).toNat else min v.toNat n
theorem sIx_nat (n d k : Nat) : sIx n d (some (k : Int)) = min k n := by
  show (if (k : Int) < 0 then ((k : Int) + (n : Int)).toNat else min (k : Int).toNat n) = min k n
  rw [if_neg (by omega), Int.toNat_natCast]
end
end HT

namespace L2
open PySem PySem.Spec PyProof.Rows

abbrev TO := St → Hp → (Option Int → Hp → Prop) → Prop
def PO (X : Cx) (e : Option Expr) (t : TO) : Prop :=
  ∀ (pins : List (Addr × Obj)) (s : Shared) (σ : St) (H : Hp) (Q : Option Int → Hp → Prop), Inv X pins σ H s → t σ H Q →
    wpAny (model X.prog X.w) X.A (evalPart e X.env) (fun u s' => ∃ o H', Inv X pins σ H' s' ∧ IsPart u o ∧ Q o H') X.xe s
def tNoPart : TO := fun _ H Q => Q none H
def tPart (t : TE) : TO := fun σ H Q => t σ H fun x H1 => ∃ i, x = .int i ∧ Q (some i) H1

section
variable {X : Cx} {e : Expr} {te : TE} {lo hi : Option Expr} {tl th : TO} {pos p2 : Pos}

theorem po_some (h : PE X e te) : PO X (some e) (tPart te) := by
  intro pins s σ H Q I hw
  rw [evalPart_some]
  refine thn (h pins s σ H _ I hw) fun u s1 ⟨x, H1, I1, r1, q1⟩ => ?_
  obtain ⟨i, rfl, q⟩ := q1
  obtain ⟨t, rfl⟩ := r1
  exact ⟨some i, H1, I1, .int i t, q⟩

def SlR (X : Cx) (r : V → Option Int → Option Int → Hp → VK → Prop) : Prop :=
  ∀ (pins : List (Addr × Obj)) (s : Shared) (σ : St) (H : Hp) (x : V) (v vl vu : Value) (lo hi : Option Int) (sl : Addr) (Q : VK), Inv X pins σ H s → RelV x v → s.heap.IsSliceOf sl vl vu .none → IsPart vl lo → IsPart vu hi → r x lo hi H Q →
    ∃ T id, typeLookup (.type T) "__getitem__" = pure (some (.builtin id)) ∧ s.TypeIs v T ∧ wpAny (model X.prog X.w) X.A (getItem v (.ref sl)) (EP X pins σ Q) X.xe s
def tSl (r : V → Option Int → Option Int → Hp → VK → Prop) (te : TE) (tl th : TO) : TE := fun σ H Q => te σ H fun x H1 => tl σ H1 fun l H2 => th σ H2 fun u H3 => r x l u H3 Q
theorem pe_slice {r : V → Option Int → Option Int → Hp → VK → Prop} (hr : SlR X r) (he : PE X e te) (hl : PO X lo tl) (hu : PO X hi th) : PE X (.Subscript e (.Slice lo hi none p2) pos) (tSl r te tl th) := by
  intro pins s σ H Q I h
  refine Subscript_ (thn (he pins s σ H _ I h) fun v s1 ⟨x, H1, I1, r1, q1⟩ => ?_)
  refine wpAny_Slice (thn (hl pins s1 σ H1 _ I1 q1) fun vl s2 ⟨l, H2, I2, pl, q2⟩ => thn (hu pins s2 σ H2 _ I2 q2) fun vu s3 ⟨u, H3, I3, pu, q3⟩ => ?_)
  rw [evalPart_none]
  refine wpAny_pure ?_
  have I4 : Inv X pins σ H3 { s3 with heap := s3.heap.push { cls := .type "slice", data := .fields #[vl, vu, .none] } } := I3.kept (t' := s3.toks) fun b ob q => Heap.get?_push_of_some _ q
  obtain ⟨T, id, hT, ht, hg⟩ := hr pins { s3 with heap := s3.heap.push { cls := .type "slice", data := .fields #[vl, vu, .none] } } σ H3 x v vl vu l u s3.heap.objs.size Q I4 r1 (Heap.IsSliceOf.new ..) pl pu q3
  show wpAny (model X.prog X.w) X.A (subscriptTail e (.Slice lo hi none p2) v (.ref s3.heap.objs.size)) (EP X pins σ Q) X.xe { s3 with heap := s3.heap.push { cls := .type "slice", data := .fields #[vl, vu, .none] } }
  exact tail_any (ops := [.ref s3.heap.objs.size, v]) ht hT hg (by with_unfolding_all rfl)

def cutV (xs : List V) (lo hi : Option Int) : List V := (xs.drop (HT.sIx xs.length 0 lo)).take (HT.sIx xs.length xs.length hi - HT.sIx xs.length 0 lo)
theorem cutV_length (xs : List V) (lo hi : Option Int) : (cutV xs lo hi).length ≤ xs.length := by
  unfold cutV
  rw [List.length_take, List.length_drop]
  omega
def rSlT (K : PySem.W.Frag) : V → Option Int → Option Int → Hp → VK → Prop := fun x lo hi H Q => ∃ a xs, x = .ref a ∧ SqT K H a xs ∧
  ¬ (HT.sIx xs.length 0 lo = 0 ∧ HT.sIx xs.length xs.length hi = xs.length) ∧ ∀ p, H p = none → Q (.ref p) (upd H p (.tup (cutV xs lo hi)))
def rLtT (K : PySem.W.Frag) : R2 := fun x y H Q => ∃ a b ns ms, x = .ref a ∧ y = .ref b ∧ SqT K H a (ns.map V.int) ∧ SqT K H b (ms.map V.int) ∧ Q (.bl (HT.lexLt ns ms)) H
def rCatT (K : PySem.W.Frag) : R2 := fun x y H Q => ∃ a b xs ys, x = .ref a ∧ y = .ref b ∧ SqT K H a xs ∧ SqT K H b ys ∧ xs ≠ [] ∧ xs.length + ys.length ≤ sizeLine ∧
  (ys = [] → Q (.ref a) H) ∧ (ys ≠ [] → ∀ p, H p = none → Q (.ref p) (upd H p (.tup (xs ++ ys))))
end
end L2

namespace L2
open PySem PySem.Spec PyProof.Rows

def ixN (n : Nat) (i : Int) : Option Nat := if 0 ≤ i then (if i < n then some i.toNat else none) else if -(n : Int) ≤ i then some (i + n).toNat else none
def atI {α : Type} (xs : List α) (i : Int) : Option α := (ixN xs.length i).bind fun j => xs[j]?
theorem ixN_seq {n : Nat} {i : Int} {j : Nat} (h : ixN n i = some j) : seqIndex? i n = some j ∧ j < n ∧ -(n : Int) ≤ i ∧ i < n := by
  unfold ixN at h
  by_cases h0 : 0 ≤ i
  · rw [if_pos h0] at h
    by_cases h1 : i < n
    · rw [if_pos h1] at h
      have e : i.toNat = j := Option.some.inj h
      exact ⟨by rw [seqIndex_of h0 h1, e], by omega, by omega, h1⟩
    · rw [if_neg h1] at h; cases h
  · rw [if_neg h0] at h
    by_cases h1 : -(n : Int) ≤ i
    · rw [if_pos h1] at h
      have e : (i + n).toNat = j := Option.some.inj h
      exact ⟨by rw [seqIndex_neg (by omega) h1, e], by omega, h1, by omega⟩
    · rw [if_neg h1] at h; cases h
theorem atI_get {α : Type} {xs : List α} {i : Int} {v : α} (h : atI xs i = some v) : ∃ j, seqIndex? i xs.length = some j ∧ xs[j]? = some v ∧ j < xs.length ∧ -(xs.length : Int) ≤ i ∧ i < xs.length := by
  unfold atI at h
  cases e : ixN xs.length i with
  | none => rw [e] at h; cases h
  | some j =>
    rw [e] at h
    obtain ⟨h1, h2, h3, h4⟩ := ixN_seq e
    exact ⟨j, h1, h, h2, h3, h4⟩
theorem atI_nat {α : Type} {xs : List α} {j : Nat} {v : α} (h : xs[j]? = some v) : atI xs (j : Int) = some v := by
  have hj : j < xs.length := (List.getElem?_eq_some_iff.mp h).1
  have e : ixN xs.length (j : Int) = some j := by
    unfold ixN
    rw [if_pos (by omega), if_pos (by omega)]; simp
  unfold atI; rw [e]; exact h
def PlainIx (b : Expr) : Prop := ∀ o i, subscripted b false o i = operate [o, i] (getItem o i)
def IxR (X : Cx) (r : R2) : Prop :=
  ∀ (value slice : Expr) (pins : List (Addr × Obj)) (s : Shared) (σ : St) (H : Hp) (x y : V) (v u : Value) (Q : VK), Inv X pins σ H s → RelV x v → RelV y u → r x y H Q →
    subscripted slice false v u = operate [v, u] (getItem v u) → wpAny (model X.prog X.w) X.A (subscriptTail value slice v u) (EP X pins σ Q) X.xe s
def MtR (X : Cx) (id : String) (r : V → List V → Hp → VK → Prop) : Prop :=
  ∀ (pins : List (Addr × Obj)) (s : Shared) (σ : St) (H : Hp) (x : V) (xs : List V) (v : Value) (us : List Value) (Q : VK), Inv X pins σ H s → RelV x v → Vals xs us → r x xs H Q →
    wpAny (model X.prog X.w) X.A (call (.builtin id) (v :: us)) (EP X pins σ Q) X.xe s
section
variable {X : Cx} {a b : Expr} {ta tb : TE} {pos : Pos}
theorem IxR.or {r r' : R2} (h : IxR X r) (h' : IxR X r') : IxR X (fun x y H Q => r x y H Q ∨ r' x y H Q) := by
  intro value slice pins s σ H x y v u Q I rx ry q hs
  rcases q with q | q
  · exact h value slice pins s σ H x y v u Q I rx ry q hs
  · exact h' value slice pins s σ H x y v u Q I rx ry q hs
theorem pe_ix {r : R2} (hr : IxR X r) (ha : PE X a ta) (hb : PE X b tb) (hs : PlainIx b) : PE X (.Subscript a b pos) (tOp r ta tb) := by
  intro pins s σ H Q I h
  exact Subscript_ (binT ha hb I h fun v u s2 x y H2 I2 rx ry q => hr a b pins s2 σ H2 x y v u Q I2 rx ry q (hs _ _))

def rIxL (K : PySem.W.Frag) : R2 := fun x y H Q => ∃ p xs i v, x = .ref p ∧ y = .int i ∧ SqL K H p xs ∧ atI xs i = some v ∧ Q v H
def rIxT (K : PySem.W.Frag) : R2 := fun x y H Q => ∃ p xs i v, x = .ref p ∧ y = .int i ∧ SqT K H p xs ∧ atI xs i = some v ∧ Q v H
def rIxS : R2 := fun x y H Q => ∃ z i c, x = .str z ∧ y = .int i ∧ z.length ≤ sizeLine ∧ atI z.cps.toList i = some c ∧ Q (.str ⟨#[c]⟩) H
theorem ix_list : IxR X (rIxL X.K) := by
  intro value slice pins s σ H x y v u Q I rx ry h hs
  obtain ⟨p, xs, i, z, rfl, rfl, hq, he, q⟩ := h
  cases rx
  obtain ⟨t, rfl⟩ := ry
  obtain ⟨its, r, pl, hz⟩ := I.list hq
  obtain ⟨j, h1, h2, h3, h4, h5⟩ := atI_get he
  obtain ⟨w, ew, rw'⟩ := r.get h2
  have hl := r.length
  have hn := line63
  have fin : EP X pins σ Q w s := ⟨z, H, I, rw', q⟩
  by_cases h0 : 0 ≤ i
  · have hj : i.toNat = j := by
      rw [seqIndex_of h0 h5] at h1
      exact Option.some.inj h1
    exact item_listR pl.isList h0 (by omega) (by rw [hj]; simpa using ew) fin hs
  · have hj : (i + (its.toArray.size : Int)).toNat = j := by
      rw [seqIndex_neg (by omega) h4] at h1
      rw [List.size_toArray, ← hl]
      exact Option.some.inj h1
    exact subscriptTail_builtinR (x := w) pl.isList.typeIs slot_list_getitem.lookup
      (wpAny_getItem_list_neg (Q := fun r s' => r = w ∧ EP X pins σ Q r s') pl.isList (by omega) (by rw [List.size_toArray] <;> omega) (by omega) (by rw [hj]; simpa using ew) ⟨rfl, fin⟩) hs
theorem ix_tup : IxR X (rIxT X.K) := by
  intro value slice pins s σ H x y v u Q I rx ry h hs
  obtain ⟨p, xs, i, z, rfl, rfl, hq, he, q⟩ := h
  cases rx
  obtain ⟨t, rfl⟩ := ry
  obtain ⟨its, r, pl, hz⟩ := I.tuple hq
  obtain ⟨j, h1, h2, h3, h4, h5⟩ := atI_get he
  obtain ⟨w, ew, rw'⟩ := r.get h2
  have hl := r.length
  have hn := line63
  have fin : EP X pins σ Q w s := ⟨z, H, I, rw', q⟩
  exact subscriptTail_builtinR (x := w) pl.typeIs slot_tuple_getitem.lookup
    (getItem_tuple (j := j) (Q := fun r s' => r = w ∧ EP X pins σ Q r s') pl (by omega) (by omega) (by rw [List.size_toArray, ← hl]; exact h1) (by simpa using ew) ⟨rfl, fin⟩) hs
theorem ix_str : IxR X rIxS := by
  intro value slice pins s σ H x y v u Q I rx ry h hs
  obtain ⟨z, i, c, rfl, rfl, hz, he, q⟩ := h
  obtain ⟨t, rfl⟩ := rx
  obtain ⟨t', rfl⟩ := ry
  obtain ⟨j, h1, h2, h3, h4, h5⟩ := atI_get he
  have hl : z.cps.toList.length = z.length := by simp [Str.length]
  rw [hl] at h1 h4 h5
  have hn := line63
  exact tail_any (typeIs_str s z t) slot_str_getitem.lookup (getItem_str (c := c) (by
    have e1 : decide (i < -(2 ^ 63 : Int)) = false := decide_eq_false (by omega)
    have e2 : decide (i ≥ 2 ^ 63) = false := decide_eq_false (by omega)
    rw [e1, e2, Bool.or_false]) (by rw [h1]; simpa using h2) ⟨.str ⟨#[c]⟩, H, I.tok _, ⟨_, rfl⟩, q⟩) hs
def rIx (K : PySem.W.Frag) : R2 := fun x y H Q => rIxL K x y H Q ∨ rIxT K x y H Q ∨ rIxS x y H Q
theorem ix_seq : IxR X (rIx X.K) := ix_list.or (ix_tup.or ix_str)

def rSetL : V → V → V → Hp → (Hp → Prop) → Prop := fun o i v H Q => ∃ p xs k j, o = .ref p ∧ i = .int k ∧ H p = some (.lst xs) ∧ ixN xs.length k = some j ∧ Q (upd H p (.lst (xs.set j v)))
theorem slice_bounds (lo hi : Option Int) (n : Nat) : (sliceBounds lo hi none n).1 = ((HT.sIx n 0 lo : Nat) : Int) ∧ (sliceBounds lo hi none n).2.1 = ((HT.sIx n n hi : Nat) : Int) ∧ (sliceBounds lo hi none n).2.2 = 1 := by
  refine ⟨?_, ?_, rfl⟩
  · cases lo with
    | none => simp [sliceBounds, HT.sIx]
    | some i =>
      simp only [sliceBounds, HT.sIx, Option.getD_none, show (1 : Int) > 0 by decide, if_true]
      by_cases h : i < 0
      · simp only [h, if_true] <;> omega
      · simp only [h, if_false] <;> omega
  · cases hi with
    | none => simp [sliceBounds, HT.sIx]
    | some i =>
      simp only [sliceBounds, HT.sIx, Option.getD_none, show (1 : Int) > 0 by decide, if_true]
      by_cases h : i < 0
      · simp only [h, if_true] <;> omega
      · simp only [h, if_false] <;> omega
theorem slicePick_cut (its : List Value) (lo hi : Option Int) : slicePick its.toArray lo hi none = ((its.drop (HT.sIx its.length 0 lo)).take (HT.sIx its.length its.length hi - HT.sIx its.length 0 lo)).toArray := by
  obtain ⟨h1, h2, h3⟩ := slice_bounds lo hi its.toArray.size
  unfold slicePick
  rw [h1, h2, h3]
  simp only [sliceRange_one, pick_run, List.size_toArray] <;> rfl
def rSlL (K : PySem.W.Frag) : V → Option Int → Option Int → Hp → VK → Prop := fun x lo hi H Q => ∃ a xs, x = .ref a ∧ SqL K H a xs ∧ ∀ p, H p = none → Q (.ref p) (upd H p (.lst (cutV xs lo hi)))
theorem sl_list : SlR X (rSlL X.K) := by
  intro pins s σ H x v vl vu lo hi sl Q I rx hs pl pu h
  obtain ⟨a, xs, rfl, hx, q⟩ := h
  cases rx
  obtain ⟨its, r, ht, hz⟩ := I.list hx
  have hlen := r.length
  refine ⟨"list", _, slot_list_getitem.lookup, ht.isList.typeIs, ?_⟩
  refine wpAny_getItem_list_slice ht.isList hs pl pu .none (by simp) ?_ (by rw [List.size_toArray] <;> omega)
  rw [slicePick_cut, ← hlen]
  refine ⟨.ref s.heap.objs.size, _, I.laid (t' := s.toks) (o := .lst (cutV xs lo hi)) (fun b ob q => Heap.get?_push_of_some _ q) (Nat.le_refl _) ?_, rfl, q _ (I.hok.fresh (Nat.le_refl _))⟩
  exact ⟨Nat.le_trans (cutV_length xs lo hi) hz, _, 0, (r.drop (HT.sIx xs.length 0 lo)).take (HT.sIx xs.length xs.length hi - HT.sIx xs.length 0 lo), Heap.get?_push_size _ rfl⟩

def flatV : V → Bool
  | .non => true
  | .bl _ => true
  | .int _ => true
  | .str _ => true
  | _ => false
def eqV : V → V → Bool
  | .non, .non => true
  | .bl a, .bl b => a == b
  | .bl a, .int b => (if a then 1 else 0) == b
  | .int a, .bl b => a == (if b then 1 else 0)
  | .int a, .int b => a == b
  | .str a, .str b => a == b
  | _, _ => false
def eqU (x : V) (u : Value) : Bool := match u with
  | .none => eqV .non x
  | .bool b => eqV (.bl b) x
  | .int i _ => eqV (.int i) x
  | .str z _ => eqV (.str z) x
  | _ => false
def inV (x : V) (xs : List V) : Bool := xs.any fun y => eqV y x
def rIn (K : PySem.W.Frag) (neg : Bool) : R2 := fun x y H Q => ∃ p xs, y = .ref p ∧ (SqL K H p xs ∨ SqT K H p xs) ∧ flatV x = true ∧ xs.all flatV = true ∧ Q (.bl (if neg then !inV x xs else inV x xs)) H
theorem call_len_seq : CallR X (.builtin "len") (fun xs H Q => ∃ p ys, xs = [.ref p] ∧ (SqL X.K H p ys ∨ SqT X.K H p ys) ∧ Q (.int ys.length) H) := by
  intro pins s σ H xs us Q I r h
  obtain ⟨p, ys, rfl, hq, q⟩ := h
  obtain ⟨u, rfl, rx⟩ := vals1 r
  cases rx
  have hn := line63
  rcases hq with hq | hq
  · obtain ⟨its, r', pl, hz⟩ := I.list hq
    have hlen := r'.length
    exact Calls.call_len_list pl.isList (by simp only [List.size_toArray] <;> omega) ⟨.int ys.length, H, I.tok _, ⟨s.toks + 1, by rw [List.size_toArray, hlen]⟩, q⟩
  · obtain ⟨its, r', pl, hz⟩ := I.tuple hq
    have hlen := r'.length
    exact len_tuple pl (by simp only [List.size_toArray] <;> omega) ⟨.int ys.length, H, I.tok _, ⟨s.toks + 1, by rw [List.size_toArray, hlen]⟩, q⟩
theorem call_len_str : CallR X (.builtin "len") (fun xs H Q => ∃ z, xs = [.str z] ∧ z.length ≤ sizeLine ∧ Q (.int z.length) H) := by
  intro pins s σ H xs us Q I r h
  obtain ⟨z, rfl, hz, q⟩ := h
  obtain ⟨u, rfl, t, rfl⟩ := vals1 r
  have hn := line63
  exact len_str (by omega) ⟨.int z.length, H, I.tok _, ⟨_, rfl⟩, q⟩
def tyV (K : PySem.W.Frag) (T : String) (x : V) (H : Hp) : Prop := match x with
  | .str _ => T = "str"
  | .int _ => T = "int"
  | .ref p => (T = "list" ∧ ∃ xs, SqL K H p xs) ∨ (T = "tuple" ∧ ∃ o, K.lookup p = some o ∧ o.cls = .type "tuple" ∧ o.dict = none) ∨
      (T = "dict" ∧ ((∃ kvs, H p = some (.dK kvs)) ∨ ∃ kvs, H p = some (.dT kvs))) ∨ (T = "set" ∧ ∃ S n, H p = some (.set S n))
  | _ => False
theorem tyV_is {pins : List (Addr × Obj)} {σ : St} {H : Hp} {s : Shared} {T : String} {x : V} {v : Value} (I : Inv X pins σ H s) (r : RelV x v) (ty : tyV X.K T x H) :
    s.TypeIs v T ∧ ∀ a, v = .ref a → ∃ ob, s.heap.get? a = some ob ∧ ob.dict = none := by
  cases x with
  | str z =>
    obtain ⟨t, rfl⟩ := r
    cases (show T = "str" from ty)
    exact ⟨typeIs_str s z t, fun _ e => nomatch e⟩
  | int i =>
    obtain ⟨t, rfl⟩ := r
    cases (show T = "int" from ty)
    exact ⟨typeIs_int s i t, fun _ e => nomatch e⟩
  | ref p =>
    cases r
    rcases ty with ⟨rfl, xs, hq⟩ | ⟨rfl, o, hk, hc, hd⟩ | ⟨rfl, hk⟩ | ⟨rfl, S, n, hk⟩
    · obtain ⟨its, _, pl, _⟩ := I.list hq
      refine ⟨pl.isList.typeIs, fun a e => ?_⟩
      cases e
      obtain ⟨o, n, e, c, hd, _⟩ := pl
      exact ⟨o, e, hd⟩
    · refine ⟨⟨o, I.kIn p o hk, hc⟩, fun a e => ?_⟩
      cases e
      exact ⟨o, I.kIn _ o hk, hd⟩
    · have z : ∃ o, s.heap.get? p = some o ∧ o.ExactDict := by
        rcases hk with ⟨kvs, hk⟩ | ⟨kvs, hk⟩
        · obtain ⟨_, _, _, _, o, _, _, e, ex, _⟩ := I.hok p _ hk
          exact ⟨o, e, ex⟩
        · obtain ⟨_, _, _, _, o, _, _, e, ex, _⟩ := I.hok p _ hk
          exact ⟨o, e, ex⟩
      obtain ⟨o, e, ex⟩ := z
      refine ⟨⟨o, e, ex.1⟩, fun a e2 => ?_⟩
      cases e2
      exact ⟨o, e, ex.2.1⟩
    · obtain ⟨o, _, _, _, e, ex, _⟩ := I.hok p _ hk
      refine ⟨⟨o, e, ex.1⟩, fun a e2 => ?_⟩
      cases e2
      exact ⟨o, e, ex.2.1⟩
  | _ => exact False.elim ty
def tBM0 (K : PySem.W.Frag) (T : String) (r : V → List V → Hp → VK → Prop) (to : TE) : TE := fun σ H Q => to σ H fun x H1 => tyV K T x H1 ∧ r x [] H1 Q
def tBM (K : PySem.W.Frag) (T : String) (r : V → List V → Hp → VK → Prop) (to : TE) (t : TA) : TE := fun σ H Q => to σ H fun x H1 => tyV K T x H1 ∧ t σ H1 fun xs H2 => r x xs H2 Q
variable {o e : Expr} {es : List Expr} {to : TE} {t : TA} {name : Str} {apos cpos : Pos} {T id : String} {r : V → List V → Hp → VK → Prop}
theorem pe_bm0 (pa : PlainAttrs T) (slot : Slot T name id) (hty : typeOf (.builtin id) = pure (.type "method_descriptor")) (hm : MtR X id r) (ho : PE X o to)
    (hbase : attributeBase o name X.env (eval o X.env) = eval o X.env := by rfl) (hline : (apos.endLine == cpos.line) = true := by rfl) : PE X (.Call (.Attribute o name apos) [] [] cpos) (tBM0 X.K T r to) := by
  intro pins s σ H Q I h
  refine wpAny_Call_method0_late hbase hline (thn (ho pins s σ H _ I h) fun v s1 ⟨x, H1, I1, r1, ty, q1⟩ => ?_)
  obtain ⟨h1, h2⟩ := tyV_is I1 r1 ty
  exact ⟨T, id, pa, slot, hty, h1, h2, Calls.callWith_builtin rfl (PySem.evalArgs_none (hm pins s1 σ H1 x [] v [] Q I1 r1 .nil q1))⟩
theorem pe_bm (pa : PlainAttrs T) (slot : Slot T name id) (hty : typeOf (.builtin id) = pure (.type "method_descriptor")) (hm : MtR X id r) (ho : PE X o to) (ha : PA X (e :: es) t)
    (hbase : attributeBase o name X.env (eval o X.env) = eval o X.env := by rfl)
    (hfew : ((backTo cpos (starEach (e :: es) X.env)).all (fun x => !x.1) && (backToKw cpos (keywordEach [] X.env)).all (fun x => x.1.isSome)
      && decide ((e :: es).length + ([] : List Keyword).length + (if ([] : List Keyword).isEmpty then 0 else 1) < 30)) = true := by rfl)
    (hline : (apos.endLine == cpos.line) = true := by rfl) (hs : starEach (e :: es) X.env = (false, eval e X.env) :: starEach es X.env := by rfl) (hplain : (backTo cpos (starEach es X.env)).any (·.1) = false := by rfl) :
    PE X (.Call (.Attribute o name apos) (e :: es) [] cpos) (tBM X.K T r to t) := by
  intro pins s σ H Q I h
  refine wpAny_Call_method_late hbase hfew hline rfl (thn (ho pins s σ H _ I h) fun v s1 ⟨x, H1, I1, r1, ty, q1⟩ => ?_)
  obtain ⟨h1, h2⟩ := tyV_is I1 r1 ty
  refine ⟨T, id, pa, slot, hty, h1, h2, ?_⟩
  have hA := ha cpos pins s1 σ H1 _ I1 q1
  rw [hs] at hA ⊢
  refine Calls.callWith_builtin (by show (false || (backTo cpos (starEach es X.env)).any (·.1)) = false; rw [hplain] <;> rfl) (Calls.evalArgs_plain ?_)
  exact thn hA fun us s2 ⟨vs, H2, I2, r2, q2⟩ => hm pins s2 σ H2 x vs v us Q I2 r1 r2 q2
/- xs.append(e), list.index on a module's tuple .. are MtR facts of 06m -/
end
end L2

namespace L2
open PySem PySem.Spec PyProof.Rows

def MtM (X : Cx) (id : String) (r : V → List V → Hp → VK → Prop) : Prop :=
  ∀ (pins : List (Addr × Obj)) (s : Shared) (σ : St) (H : Hp) (x : V) (xs : List V) (v : Value) (us : List Value) (Q : VK), Inv X pins σ H s → RelV x v → Vals xs us → r x xs H Q →
    wpAny (model X.prog X.w) X.A (call (.builtin id) (v :: us)) (EP X pins σ Q) X.xe s

theorem Vals.one : ∀ {x : V} {us : List Value}, Vals [x] us → ∃ u, us = [u] ∧ RelV x u
  | _, _, .cons r .nil => ⟨_, rfl, r⟩
theorem Vals.zero : ∀ {us : List Value}, Vals [] us → us = []
  | _, .nil => rfl
theorem Vals.dropLast {xs : List V} {us : List Value} (h : Vals xs us) : Vals xs.dropLast us.dropLast := by
  induction h with
  | nil => exact .nil
  | cons r t ih =>
    cases t with
    | nil => exact .nil
    | cons q t' => exact .cons r ih
theorem erase_last {α : Type} (l : List α) : l.eraseIdx (l.length - 1) = l.dropLast := by
  induction l with
  | nil => rfl
  | cons a r ih =>
    cases r with
    | nil => rfl
    | cons b r =>
      have e : (a :: b :: r).length - 1 = ((b :: r).length - 1) + 1 := by
        have h1 : (a :: b :: r).length = r.length + 2 := rfl
        have h2 : (b :: r).length = r.length + 1 := rfl
        omega
      rw [e, List.eraseIdx_cons_succ, ih]
      all_goals rfl
section
variable {X : Cx} {pins : List (Addr × Obj)} {σ : St} {H : Hp} {s : Shared} {l b : Addr} {xs ys zs : List V}

theorem Inv.lset {its its' : List Value} {n : Nat} {f : Array Value → Array Value} {t' : Nat} (I : Inv X pins σ H s) (hH : H l = some (.lst xs))
    (e : s.heap.get? l = some { cls := .type "list", data := .seq its.toArray n }) (hf : f its.toArray = its'.toArray) (hv : Vals ys its') (hz : ys.length ≤ sizeLine) :
    Inv X pins σ (upd H l (.lst ys)) { s with heap := s.heap.update l (Obj.mapSeq f), toks := t' } := by
  have q := PySem.IsL.update e f
  rw [hf] at q
  refine I.write (x := l) (e := l) (by rw [hH]; exact trivial) (.inl rfl) (fun b' u hb hu => (Heap.get?_update_other s.heap (Obj.mapSeq f) (Ne.symm hb)).trans hu) ⟨_, q⟩ ?_
  exact ⟨hz, its', _, hv, q⟩
theorem Inv.lstM (I : Inv X pins σ H s) (hH : H l = some (.lst xs)) : xs.length ≤ sizeLine ∧ ∃ (its : List Value) (n : Nat), Vals xs its ∧ xs.length = its.length ∧ s.heap.get? l = some { cls := .type "list", data := .seq its.toArray n } := by
  obtain ⟨z, its, n, r, e⟩ := I.hok l _ hH
  exact ⟨z, its, n, r, r.length, e⟩

end

section
variable {X : Cx}

def rAppend : V → List V → Hp → VK → Prop := fun x vs H Q => ∃ l xs y, x = .ref l ∧ vs = [y] ∧ H l = some (.lst xs) ∧ xs.length < sizeLine ∧ Q .non (upd H l (.lst (xs ++ [y])))
def rExtend : V → List V → Hp → VK → Prop := fun x vs H Q => ∃ l b xs zs, x = .ref l ∧ vs = [.ref b] ∧ H l = some (.lst xs) ∧ H b = some (.lst zs) ∧ xs.length + zs.length ≤ sizeLine ∧ Q .non (upd H l (.lst (xs ++ zs)))
def rPop : V → List V → Hp → VK → Prop := fun x vs H Q => ∃ l xs y, x = .ref l ∧ vs = [] ∧ H l = some (.lst xs) ∧ xs[xs.length - 1]? = some y ∧ Q y (upd H l (.lst xs.dropLast))
theorem mt_pop : MtM X "list.pop" rPop := by
  intro pins s σ H x vs v us Q I rx rv h
  obtain ⟨l, xs, y, rfl, rfl, hH, hy, q⟩ := h
  cases rx
  have hus := rv.zero
  subst hus
  obtain ⟨z, its, n, r, hl, e⟩ := I.lstM hH
  obtain ⟨u, hu, ru⟩ := r.get hy
  have hy' : its.toArray[its.toArray.size - 1]? = some u := by
    show its.toArray[its.length - 1]? = some u
    rw [← Array.getElem?_toList, ← hl]
    exact hu
  refine call_meets F.slot_list_pop ⟨_, e, rfl⟩ F.entry_list_pop (F.args_list_pop_1 _) (MeetsSeq.list_pop_last l its.toArray n u hy' (by rw [List.size_toArray]; omega)) ⟨e, ?_⟩
  refine ⟨y, _, I.lset (its' := its.dropLast) hH e ?_ r.dropLast ?_, ru, q⟩
  · show its.toArray.eraseIdxIfInBounds (its.toArray.size - 1) = its.dropLast.toArray
    rw [List.size_toArray, List.eraseIdxIfInBounds_toArray, erase_last]
  · rw [List.length_dropLast]
    omega

def rPopAt : V → List V → Hp → VK → Prop := fun x vs H Q => ∃ l xs i k y, x = .ref l ∧ vs = [.int i] ∧ H l = some (.lst xs) ∧ -(2 ^ 63) ≤ i ∧ i < 2 ^ 63 ∧ seqIndex? i xs.length = some k ∧ xs[k]? = some y ∧ Q y (upd H l (.lst (xs.eraseIdx k)))
def rReverse : V → List V → Hp → VK → Prop := fun x vs H Q => ∃ l xs, x = .ref l ∧ vs = [] ∧ H l = some (.lst xs) ∧ Q .non (upd H l (.lst xs.reverse))
def rClear : V → List V → Hp → VK → Prop := fun x vs H Q => ∃ l xs, x = .ref l ∧ vs = [] ∧ H l = some (.lst xs) ∧ Q .non (upd H l (.lst []))
theorem mt_clear : MtM X "list.clear" rClear := by
  intro pins s σ H x vs v us Q I rx rv h
  obtain ⟨l, xs, rfl, rfl, hH, q⟩ := h
  cases rx
  have hus := rv.zero
  subst hus
  obtain ⟨z, its, n, r, hl, e⟩ := I.lstM hH
  refine call_meets F.slot_list_clear ⟨_, e, rfl⟩ F.entry_list_clear (F.args_list_clear_1 _) (AutoSeq1.list_clear_list_0 l its.toArray n (by rw [List.size_toArray]; omega)) ⟨e, ?_⟩
  exact ⟨.non, _, I.lset (its' := []) (ys := []) hH e rfl .nil (Nat.zero_le _), rfl, q⟩

def rCat : R2 := fun x y H Q => ∃ l b xs zs, x = .ref l ∧ y = .ref b ∧ H l = some (.lst xs) ∧ H b = some (.lst zs) ∧ xs.length + zs.length ≤ sizeLine ∧ ∀ p, H p = none → Q (.ref p) (upd H p (.lst (xs ++ zs)))
def rRep : R2 := fun x y H Q => ∃ l k xs, x = .ref l ∧ y = .int k ∧ H l = some (.lst xs) ∧ -(2 ^ 63) ≤ k ∧ k < 2 ^ 63 ∧ xs.length * k.toNat ≤ sizeLine ∧
  ∀ p, H p = none → Q (.ref p) (upd H p (.lst (List.replicate k.toNat xs).flatten))
end

section
variable {prog : Program} {w : World} {A : Around} {E : Value → Shared → Prop} {s : Shared}
set_option maxRecDepth 100000 in
end

section
variable {X : Cx}
end
end L2

namespace L2
open PySem PySem.Spec PyProof.Rows

section
variable {κ : Type} [DecidableEq κ]
def valV (kvs : List (κ × V)) (k : κ) : Option V := (kvs.find? fun kv => decide (kv.1 = k)).map (·.2)
def putK (kvs : List (κ × V)) (k : κ) (v : V) : List (κ × V) :=
  if (kvs.any fun kv => decide (kv.1 = k)) = true then kvs.map (fun kv => if kv.1 = k then (kv.1, v) else kv) else kvs ++ [(k, v)]
def dropK (kvs : List (κ × V)) (k : κ) : List (κ × V) := kvs.filter fun kv => decide (kv.1 ≠ k)

theorem valV_pos {p : κ × V} {r : List (κ × V)} {k : κ} (e : p.1 = k) : valV (p :: r) k = some p.2 := by simp [valV, List.find?_cons, e]
theorem valV_neg {p : κ × V} {r : List (κ × V)} {k : κ} (e : ¬ p.1 = k) : valV (p :: r) k = valV r k := by simp [valV, List.find?_cons, e]
theorem valV_any (k : κ) : ∀ kvs : List (κ × V), (kvs.any fun kv => decide (kv.1 = k)) = (valV kvs k).isSome
  | [] => rfl
  | p :: r => by
    rw [List.any_cons]
    by_cases e : p.1 = k
    · simp only [valV_pos e, decide_eq_true e, Bool.true_or, Option.isSome_some]
    · rw [valV_neg e, decide_eq_false e, Bool.false_or]; exact valV_any k r
theorem length_putK (kvs : List (κ × V)) (k : κ) (v : V) : (putK kvs k v).length ≤ kvs.length + 1 := by
  unfold putK
  split
  · rw [List.length_map]; omega
  · rw [List.length_append, List.length_cons, List.length_nil]; omega
theorem RelO.isSome_eq {o : Option V} {u : Option Value} (r : RelO o u) : o.isSome = u.isSome := by
  cases o with
  | none => cases u with
    | none => rfl
    | some _ => exact (show False from r).elim
  | some _ => cases u with
    | none => exact (show False from r).elim
    | some _ => rfl
theorem RelO.getD {o : Option V} {u : Option Value} {d : V} {d' : Value} (r : RelO o u) (rd : RelV d d') : RelV (o.getD d) (u.getD d') := by
  cases o with
  | none => cases u with
    | none => exact rd
    | some _ => exact (show False from r).elim
  | some _ => cases u with
    | none => exact (show False from r).elim
    | some _ => exact r

theorem KV.val {kvs : List (κ × V)} {vs : List (κ × Value)} (r : KV kvs vs) (k : κ) : RelO (valV kvs k) (valueAt vs k) := by
  unfold KV at r
  induction r with
  | nil => exact True.intro
  | @cons p q ps qs h t ih =>
    obtain ⟨h1, h2⟩ := h
    by_cases e : p.1 = k
    · have e' : q.1 = k := h1.symm.trans e
      have b : valueAt (q :: qs) k = some q.2 := by simp [valueAt, List.find?_cons, e']
      rw [valV_pos e, b]; exact h2
    · have e' : ¬ q.1 = k := fun z => e (h1.trans z)
      have b : valueAt (q :: qs) k = valueAt qs k := by simp [valueAt, List.find?_cons, e']
      rw [valV_neg e, b]; exact ih
theorem KV.any {kvs : List (κ × V)} {vs : List (κ × Value)} (r : KV kvs vs) (k : κ) : (kvs.any fun kv => decide (kv.1 = k)) = vs.any fun kv => decide (kv.1 = k) := by
  unfold KV at r
  induction r with
  | nil => rfl
  | cons h t ih => rw [List.any_cons, List.any_cons, ih, h.1]
theorem KV.repl {kvs : List (κ × V)} {vs : List (κ × Value)} (r : KV kvs vs) (k : κ) {y : V} {u : Value} (ry : RelV y u) :
    KV (kvs.map fun kv => if kv.1 = k then (kv.1, y) else kv) (vs.map fun kv => if kv.1 = k then (kv.1, u) else kv) := by
  unfold KV at r ⊢
  induction r with
  | nil => exact .nil
  | @cons p q ps qs h t ih =>
    rw [List.map_cons, List.map_cons]
    refine .cons ?_ ih
    obtain ⟨h1, h2⟩ := h
    by_cases e : p.1 = k
    · rw [if_pos e, if_pos (h1.symm.trans e)]; exact ⟨h1, ry⟩
    · rw [if_neg e, if_neg (fun z => e (h1.trans z))]; exact ⟨h1, h2⟩
theorem KV.put {kvs : List (κ × V)} {vs : List (κ × Value)} (r : KV kvs vs) (k : κ) {y : V} {u : Value} (ry : RelV y u) : KV (putK kvs k y) (stored vs k u) := by
  unfold putK stored
  rw [r.any k]
  by_cases e : (vs.any fun kv => decide (kv.1 = k)) = true
  · rw [if_pos e, if_pos e]; exact r.repl k ry
  · rw [if_neg e, if_neg e]; exact Paired.snoc r ⟨rfl, ry⟩
theorem KV.drop {kvs : List (κ × V)} {vs : List (κ × Value)} (r : KV kvs vs) (k : κ) : KV (dropK kvs k) (without vs k) := by
  unfold KV at r ⊢
  unfold dropK without
  induction r with
  | nil => exact .nil
  | @cons p q ps qs h t ih =>
    obtain ⟨h1, h2⟩ := h
    rw [List.filter_cons, List.filter_cons]
    by_cases e : p.1 = k
    · have a : ¬ decide (p.1 ≠ k) = true := by simp [e]
      have b : ¬ decide (q.1 ≠ k) = true := by simp [h1.symm.trans e]
      rw [if_neg a, if_neg b]; exact ih
    · have e' : ¬ q.1 = k := fun z => e (h1.trans z)
      have a : decide (p.1 ≠ k) = true := by simp [e]
      have b : decide (q.1 ≠ k) = true := by simp [e']
      rw [if_pos a, if_pos b]; exact .cons ⟨h1, h2⟩ ih
theorem KV.length {kvs : List (κ × V)} {vs : List (κ × Value)} (r : KV kvs vs) : kvs.length = vs.length := Paired.length r
theorem dropK_le (kvs : List (κ × V)) (k : κ) : (dropK kvs k).length ≤ kvs.length := List.length_filter_le _ _
end


theorem kV_is {P : Program} {w : World} {k : Key} {u : Value} (r : RelV (kV k) u) : (mixKind P w).is k u = true := by
  cases k with
  | inl i => obtain ⟨t, e⟩ := (show ∃ t, u = Value.int i t from r); subst e; exact mixKind_int P w i t
  | inr x => obtain ⟨t, e⟩ := (show ∃ t, u = Value.str x t from r); subst e; exact mixKind_str P w x t
theorem items_are {P : Program} {w : World} : ∀ {ks : List Key} {us : List Value}, Vals (ks.map kV) us → ItemsAre (mixKind P w) ks us
  | [], _, r => by rw [List.map_nil] at r; cases r; exact .nil
  | k :: ks, _, r => by
    rw [List.map_cons] at r
    cases r with
    | cons h t => exact .cons (kV_is h) (items_are t)

abbrev KT (H : Hp) : List (List Key × V) → List (List Key × Addr × Value) → Prop := Paired fun p q => p.1 = q.1 ∧ H q.2.1 = some (.tup (p.1.map kV)) ∧ RelV p.2 q.2.2
theorem KT.val {H : Hp} {kvs : List (List Key × V)} {xs : List (List Key × Addr × Value)} (r : KT H kvs xs) (k : List Key) : RelO (valV kvs k) ((atKey xs k).map (·.2)) := by
  induction r with
  | nil => exact True.intro
  | @cons p q ps qs h t ih =>
    obtain ⟨h1, _, h2⟩ := h
    by_cases e : p.1 = k
    · have e' : q.1 = k := h1.symm.trans e
      have b : atKey (q :: qs) k = some q.2 := by simp [atKey, List.find?_cons, e']
      rw [valV_pos e, b]; exact h2
    · have e' : ¬ q.1 = k := fun z => e (h1.trans z)
      have b : atKey (q :: qs) k = atKey qs k := by simp [atKey, List.find?_cons, e']
      rw [valV_neg e, b]; exact ih
theorem KT.repl {H : Hp} {kvs : List (List Key × V)} {xs : List (List Key × Addr × Value)} (r : KT H kvs xs) (k : List Key) {y : V} {u : Value} (ry : RelV y u) :
    KT H (kvs.map fun kv => if kv.1 = k then (kv.1, y) else kv) (xs.map (putAt k u)) := by
  induction r with
  | nil => exact .nil
  | @cons p q ps qs h t ih =>
    rw [List.map_cons, List.map_cons]
    refine .cons ?_ ih
    obtain ⟨h1, h2, h3⟩ := h
    unfold putAt
    by_cases e : p.1 = k
    · rw [if_pos e, if_pos (h1.symm.trans e)]; exact ⟨h1, h2, ry⟩
    · rw [if_neg e, if_neg (fun z => e (h1.trans z))]; exact ⟨h1, h2, h3⟩
theorem KT.put {H : Hp} {kvs : List (List Key × V)} {xs : List (List Key × Addr × Value)} (r : KT H kvs xs) (k : List Key) {b : Addr} {y : V} {u : Value} (hb : H b = some (.tup (k.map kV))) (ry : RelV y u) :
    KT H (putK kvs k y) (storedH xs k b u) := by
  have e : (kvs.any fun kv => decide (kv.1 = k)) = (atKey xs k).isSome := by
    rw [valV_any, (r.val k).isSome_eq, Option.isSome_map]
  unfold putK storedH
  rw [e]
  by_cases q : (atKey xs k).isSome = true
  · rw [if_pos q, if_pos q]; exact r.repl k ry
  · rw [if_neg q, if_neg q]; exact Paired.snoc r ⟨rfl, hb, ry⟩
theorem KT.keeps {H H' : Hp} {kvs : List (List Key × V)} {xs : List (List Key × Addr × Value)} (r : KT H kvs xs) (ht : ∀ b ys, H b = some (.tup ys) → H' b = some (.tup ys)) : KT H' kvs xs :=
  Paired.mapP r fun _ _ z => ⟨z.1, ht _ _ z.2.1, z.2.2⟩

section
variable {P : Program} {w : World} {H : Hp} {h : Heap} {a : Addr}
theorem rd_of {u : HO} (ok : HOk P w H h) (e : Rd H a u) : ObjOk P w H h a u := e.ok ok
theorem dk_rd {kvs : List (Key × V)} (ok : HOk P w H h) (e : Rd H a (.dK kvs)) : kvs.length ≤ sizeLine ∧ (a == sysModules) = false ∧ ∃ vs, KV kvs vs ∧ h.DictOf (mixKind P w) a vs :=
  show ObjOk P w H h a (.dK kvs) from rd_of ok e
theorem dk_of {kvs : List (Key × V)} (ok : HOk P w H h) (e : H a = some (.dK kvs)) : kvs.length ≤ sizeLine ∧ (a == sysModules) = false ∧ ∃ vs, KV kvs vs ∧ h.DictOf (mixKind P w) a vs := dk_rd ok (.inl e)
theorem key_of {ks : List Key} (ok : HOk P w H h) (e : H a = some (.tup (ks.map kV))) : (tupleKind (mixKind P w)).is h ks a := by
  obtain ⟨_, its, r, o, h1, h2, n, h3⟩ := (show ObjOk P w H h a (.tup (ks.map kV)) from ok a _ e)
  exact ⟨o, its.toArray, n, h1, h2, h3, by simpa using items_are r⟩
theorem dt_rd {kvs : List (List Key × V)} (ok : HOk P w H h) (e : Rd H a (.dT kvs)) : kvs.length ≤ sizeLine ∧ (a == sysModules) = false ∧
    ∃ xs, KT H kvs xs ∧ h.DictOfH (tupleKind (mixKind P w)) a xs := by
  obtain ⟨z, y, xs, r, o, es, ep, h1, h2, h3, h4, h5⟩ := (show ObjOk P w H h a (.dT kvs) from rd_of ok e)
  refine ⟨z, y, xs, r, o, es, ep, h1, h2, h3, h4, fun x hx => ?_, h5⟩
  have all : ∀ {l : List (List Key × V)} {m : List (List Key × Addr × Value)}, KT H l m → ∀ x ∈ m, (tupleKind (mixKind P w)).is h x.1 x.2.1 := by
    intro l m q
    induction q with
    | nil => intro x hx; exact nomatch hx
    | @cons p q ps qs hq t ih =>
      intro x hx
      rcases List.mem_cons.mp hx with e | hx
      · subst e
        exact key_of ok (by rw [← hq.1]; exact hq.2.1)
      · exact ih x hx
  exact all r x hx
theorem dt_of {kvs : List (List Key × V)} (ok : HOk P w H h) (e : H a = some (.dT kvs)) : kvs.length ≤ sizeLine ∧ (a == sysModules) = false ∧
    ∃ xs, KT H kvs xs ∧ h.DictOfH (tupleKind (mixKind P w)) a xs := dt_rd ok (.inl e)
end

def DGet (H : Hp) (a : Addr) (y : V) (r : Option V) : Prop :=
  (∃ kvs k, Rd H a (.dK kvs) ∧ y = kV k ∧ r = valV kvs k) ∨ ∃ kvs k b, Rd H a (.dT kvs) ∧ y = .ref b ∧ H b = some (.tup (k.map kV)) ∧ r = valV kvs k
def DPut (H : Hp) (a : Addr) (y v : V) (H' : Hp) : Prop :=
  (∃ kvs k, H a = some (.dK kvs) ∧ y = kV k ∧ kvs.length < sizeLine ∧ H' = upd H a (.dK (putK kvs k v))) ∨
  ∃ kvs k b, H a = some (.dT kvs) ∧ y = .ref b ∧ H b = some (.tup (k.map kV)) ∧ kvs.length < sizeLine ∧ H' = upd H a (.dT (putK kvs k v))
theorem DGet.k {H : Hp} {a : Addr} {kvs : List (Key × V)} {k : Key} (e : H a = some (.dK kvs)) : DGet H a (kV k) (valV kvs k) := .inl ⟨kvs, k, .inl e, rfl, rfl⟩
theorem DPut.k {H : Hp} {a : Addr} {kvs : List (Key × V)} {k : Key} {v : V} (e : H a = some (.dK kvs)) (hl : kvs.length < sizeLine) : DPut H a (kV k) v (upd H a (.dK (putK kvs k v))) := .inl ⟨kvs, k, e, rfl, hl, rfl⟩
section
variable {X : Cx} {pins : List (Addr × Obj)} {σ : St} {H : Hp} {s : Shared} {a : Addr} {y v : V} {u r : Value} {o : Option V} {A : Around} {E : Value → Shared → Prop}

theorem Inv.big (I : Inv X pins σ H s) : sysModules < s.heap.objs.size := by
  have h : mainGlobals < s.heap.objs.size := (I.mod.glob.keeps I.bk).lt
  exact Nat.lt_trans (by decide) h

theorem d_getItem {Q : Value → Shared → Prop} (hu : A.units + 1 < cLine) (I : Inv X pins σ H s) (g : DGet H a y (some v)) (ry : RelV y u) (h : ∀ w' s', Inv X pins σ H s' → RelV v w' → Q w' s') :
    wpAny (model X.prog X.w) A (getItem (.ref a) u) Q E s := by
  rcases g with ⟨kvs, k, e, ey, l⟩ | ⟨kvs, k, b, e, ey, eb, l⟩
  · subst ey
    obtain ⟨z, hd, vs, rel, dd⟩ := dk_rd I.hok e
    obtain ⟨w', hw, rw'⟩ := RelO.some_of (v := v) (o := valueAt vs k) (by rw [l]; exact rel.val k)
    exact wpAny_getItem_of (kV_is ry) dd.mapOf hw (h w' _ (I.tok _) rw')
  · subst ey
    cases (show u = Value.ref b from ry)
    obtain ⟨z, hd, xs, rel, dd⟩ := dt_rd I.hok e
    obtain ⟨w', hw, rw'⟩ := RelO.some_of (v := v) (o := (atKey xs k).map (·.2)) (by rw [l]; exact rel.val k)
    obtain ⟨p, hp, hp2⟩ := Option.map_eq_some_iff.mp hw
    refine wpAny_getItem_heap (tupleKind_room_in1 hu) (key_of I.hok eb) dd hp ?_
    rw [hp2]
    exact h w' _ (I.tok _) rw'
theorem d_in {Q : Value → Shared → Prop} (hu : A.units + 1 < cLine) (I : Inv X pins σ H s) (g : DGet H a y o) (ry : RelV y u) (h : ∀ s', Inv X pins σ H s' → Q (.bool o.isSome) s') :
    wpAny (model X.prog X.w) A (compareOp .In u (.ref a)) Q E s := by
  rcases g with ⟨kvs, k, e, ey, l⟩ | ⟨kvs, k, b, e, ey, eb, l⟩
  · subst ey
    obtain ⟨z, hd, vs, rel, dd⟩ := dk_rd I.hok e
    refine wpAny_in_of (kV_is ry) hd dd.mapOf ?_
    rw [← (rel.val k).isSome_eq, ← l]
    exact h _ (I.tok _)
  · subst ey
    cases (show u = Value.ref b from ry)
    obtain ⟨z, hd, xs, rel, dd⟩ := dt_rd I.hok e
    refine wpAny_in_heap (tupleKind_room_in1 hu) (key_of I.hok eb) hd dd ?_
    have q := (rel.val k).isSome_eq
    rw [Option.isSome_map] at q
    rw [← q, ← l]
    exact h _ (I.tok _)
theorem d_notIn {Q : Value → Shared → Prop} (hu : A.units + 1 < cLine) (I : Inv X pins σ H s) (g : DGet H a y o) (ry : RelV y u) (h : ∀ s', Inv X pins σ H s' → Q (.bool (!o.isSome)) s') :
    wpAny (model X.prog X.w) A (compareOp .NotIn u (.ref a)) Q E s := by
  rcases g with ⟨kvs, k, e, ey, l⟩ | ⟨kvs, k, b, e, ey, eb, l⟩
  · subst ey
    obtain ⟨z, hd, vs, rel, dd⟩ := dk_rd I.hok e
    refine wpAny_notIn_of (kV_is ry) hd dd.mapOf ?_
    rw [← (rel.val k).isSome_eq, ← l]
    exact h _ (I.tok _)
  · subst ey
    cases (show u = Value.ref b from ry)
    obtain ⟨z, hd, xs, rel, dd⟩ := dt_rd I.hok e
    refine wpAny_notIn_heap (tupleKind_room_in1 hu) (key_of I.hok eb) hd dd ?_
    have q := (rel.val k).isSome_eq
    rw [Option.isSome_map] at q
    rw [← q, ← l]
    exact h _ (I.tok _)
theorem d_write {h' : Heap} {t' : Nat} {ob : HO} (I : Inv X pins σ H s) (mu : Mut (H a)) (hs : Heap.SameBut a s.heap h') (he : ∃ q, h'.get? a = some q) (new : ObjOk X.prog X.w (upd H a ob) h' a ob) :
    Inv X pins σ (upd H a ob) { s with heap := h', toks := t' } :=
  I.write (x := a) (e := a) mu (.inl rfl) (fun b q hb z => (hs.2 b hb).trans z) he new
theorem dk_new {P : Program} {w : World} {H' : Hp} {h' : Heap} {kvs : List (Key × V)} {vs : List (Key × Value)} (z : kvs.length ≤ sizeLine) (hd : (a == sysModules) = false) (rel : KV kvs vs) (dd : h'.DictOf (mixKind P w) a vs) :
    ObjOk P w H' h' a (.dK kvs) := ⟨z, hd, vs, rel, dd⟩
theorem d_setItem {H' : Hp} {Q : Unit → Shared → Prop} (hu : A.units + 1 < cLine) (I : Inv X pins σ H s) (g : DPut H a y v H') (ry : RelV y u) (rv : RelV v r) (h : ∀ s', Inv X pins σ H' s' → Q () s') :
    wpAny (model X.prog X.w) A (setItem (.ref a) u r) Q E s := by
  rcases g with ⟨kvs, k, e, ey, l, eH⟩ | ⟨kvs, k, b, e, ey, eb, l, eH⟩
  · subst ey eH
    obtain ⟨z, hd, vs, rel, dd⟩ := dk_of I.hok e
    have hz : vs.length ≤ sizeLine := by rw [← rel.length]; exact z
    have hl : (putK kvs k v).length ≤ sizeLine := by have := length_putK kvs k v; omega
    refine wpAny_setItem_pairs (hsz := hz) (kV_is ry) dd fun h' dd' hs => h _ ?_
    have he : ∃ q, h'.get? a = some q := let ⟨q, _, _, hq, _⟩ := dd'; ⟨q, hq⟩
    exact d_write I (by rw [e]; exact True.intro) hs he (dk_new hl hd (rel.put k rv) dd')
  · subst ey eH
    cases (show u = Value.ref b from ry)
    obtain ⟨z, hd, xs, rel, dd⟩ := dt_of I.hok e
    have hz : xs.length ≤ sizeLine := by rw [← Paired.length rel]; exact z
    have hl : (putK kvs k v).length ≤ sizeLine := by have := length_putK kvs k v; omega
    refine wpAny_setItem_heap (hsz := hz) (tupleKind_room_in1 hu) (key_of I.hok eb) dd fun h' dd' hs => h _ ?_
    obtain ⟨q, es, ep, hq, h2, h3, h4, _, h5⟩ := dd'
    refine d_write I (by rw [e]; exact True.intro) hs ⟨q, hq⟩ ⟨hl, hd, _, (rel.put k eb rv).keeps fun c ys ec => ?_, q, es, ep, hq, h2, h3, h4, h5⟩
    rw [upd_ne (ne_of ec e (fun z => nomatch z))]
    exact ec
end

section
variable {X : Cx} {pins : List (Addr × Obj)} {σ : St} {H : Hp} {s : Shared} {a : Addr} {kvs : List (Key × V)} {k : Key} {u : Value} {A : Around} {E : Value → Shared → Prop}
theorem d_delItem {Q : Unit → Shared → Prop} (I : Inv X pins σ H s) (e : H a = some (.dK kvs)) (ry : RelV (kV k) u) (l : (valV kvs k).isSome = true) (h : ∀ s', Inv X pins σ (upd H a (.dK (dropK kvs k))) s' → Q () s') :
    wpAny (model X.prog X.w) A (delItem (.ref a) u) Q E s := by
  obtain ⟨z, hd, vs, rel, dd⟩ := dk_of I.hok e
  refine wpAny_delItem_slot dd.typeIs (by decide) PySem.F.slot_dict_delitem
    (call_meetsIn PySem.F.slot_dict_delitem dd.typeIs PySem.F.entry_dict_delitem (PySem.F.args_dict_delitem_2 _ _) (meets_dict_delitem_pairs (mixKind X.prog X.w) a (kV_is ry)) ⟨vs, dd, by rw [← rel.length]; exact z, by rw [← (rel.val k).isSome_eq]; exact l, fun h' dd' hs => h _ ?_⟩)
  have he : ∃ q, h'.get? a = some q := let ⟨q, _, _, hq, _⟩ := dd'; ⟨q, hq⟩
  exact d_write I (by rw [e]; exact True.intro) hs he (dk_new (Nat.le_trans (dropK_le kvs k) z) hd (rel.drop k) dd')
theorem d_pop {v : V} {more : List Value} {Q : Value → Shared → Prop} (I : Inv X pins σ H s) (e : H a = some (.dK kvs)) (ry : RelV (kV k) u) (l : valV kvs k = some v) (hm : more = [] ∨ ∃ x, more = [x])
    (h : ∀ w' s', Inv X pins σ (upd H a (.dK (dropK kvs k))) s' → RelV v w' → Q w' s') : wpAny (model X.prog X.w) A (call (.builtin "dict.pop") (.ref a :: u :: more)) Q E s := by
  obtain ⟨z, hd, vs, rel, dd⟩ := dk_of I.hok e
  obtain ⟨w', hw, rw'⟩ := RelO.some_of (v := v) (o := valueAt vs k) (by rw [← l]; exact rel.val k)
  have hp : (keyPart u).isSome = true := by
    cases k with
    | inl i => obtain ⟨t, q⟩ := (show ∃ t, u = Value.int i t from ry); subst q; rfl
    | inr x => obtain ⟨t, q⟩ := (show ∃ t, u = Value.str x t from ry); subst q; rfl
  have ha : argsOk "dict.pop" ⟨.ref a :: u :: more, []⟩ := by
    rcases hm with q | ⟨x, q⟩
    · subst q; exact PySem.F.args_dict_pop_2 _ _
    · subst q; exact PySem.F.args_dict_pop_3 _ _ _
  refine call_meetsIn PySem.F.slot_dict_pop dd.typeIs PySem.F.entry_dict_pop ha (meets_dict_pop_there (mixKind X.prog X.w) a (kV_is ry) more hm hp)
    ⟨vs, w', dd, by rw [← rel.length]; exact z, hw, fun h' dd' hs => h w' _ ?_ rw'⟩
  have he : ∃ q, h'.get? a = some q := let ⟨q, _, _, hq, _⟩ := dd'; ⟨q, hq⟩
  exact d_write I (by rw [e]; exact True.intro) hs he (dk_new (Nat.le_trans (dropK_le kvs k) z) hd (rel.drop k) dd')
end


def NoSl (i : Expr) : Prop := ∀ ov iv, subscripted i false ov iv = operate [ov, iv] (getItem ov iv)
theorem subD_of {prog : Program} {w : World} {A : Around} {E : Value → Shared → Prop} {s : Shared} {env : Env} {value slice : Expr} {pos : Pos} {T id : String} {Q : Value → Shared → Prop}
    (hl : typeLookup (.type T) "__getitem__" = pure (some (.builtin id))) (hs : NoSl slice)
    (h : wpAny (model prog w) A (eval value env) (fun o s₁ => wpAny (model prog w) A (eval slice env) (fun i s₂ => s₂.TypeIs o T ∧ wpAny (model prog w) A (getItem o i) Q E s₂) E s₁) E s) :
    wpAny (model prog w) A (eval (.Subscript value slice pos) env) Q E s := by
  refine Subscript_ (wpAny_mono h (fun o s₁ h₁ => wpAny_mono h₁ (fun i s₂ h₂ => ?_) fun _ _ x => x) fun _ _ x => x)
  obtain ⟨hT, h₂⟩ := h₂
  unfold subscriptTail
  refine wpAny_bind ?_
  rw [getitemInPython_of_ne hT.not_modules]
  refine wpAny_bind (wpAny_specialOf hT hl ?_)
  have fin : wpAny (model prog w) A (subscripted slice false o i) (fun r s₃ => wpAny (model prog w) A (letTemporaryGo value o r >>= fun _ => pure r) Q E s₃) E s₂ := by
    rw [hs o i]
    exact wpAny_operating (wpAny_mono h₂ (fun r s₃ h₃ => wpAny_bind (wpAny_letTemporaryGo (wpAny_pure h₃))) fun _ _ x => x)
  first
    | exact wpAny_pure (wpAny_bind fin)
    | exact wpAny_bind (wpAny_pure (wpAny_bind fin))
    | exact wpAny_bind fin

theorem dict_typeIs {X : Cx} {pins : List (Addr × Obj)} {σ : St} {H : Hp} {s : Shared} {a : Addr} {y : V} {o : Option V} (I : Inv X pins σ H s) (g : DGet H a y o) : s.TypeIs (.ref a) "dict" := by
  rcases g with ⟨kvs, k, e, _, _⟩ | ⟨kvs, k, b, e, _, _, _⟩
  · obtain ⟨_, _, vs, _, dd⟩ := dk_rd I.hok e
    exact dd.typeIs
  · obtain ⟨_, _, xs, _, dd⟩ := dt_rd I.hok e
    exact dd.typeIs
def tDGet (td ty : TE) : TE := fun σ H Q => td σ H fun x H1 => ty σ H1 fun y H2 => ∃ a v, x = .ref a ∧ DGet H2 a y (some v) ∧ Q v H2
def tDIn (ty td : TE) : TE := fun σ H Q => ty σ H fun y H1 => td σ H1 fun x H2 => ∃ a o, x = .ref a ∧ DGet H2 a y o ∧ Q (.bl o.isSome) H2
def tDNotIn (ty td : TE) : TE := fun σ H Q => ty σ H fun y H1 => td σ H1 fun x H2 => ∃ a o, x = .ref a ∧ DGet H2 a y o ∧ Q (.bl (!o.isSome)) H2
def sDPut (td ty tv : TE) : TS := fun D σ H => tv σ H fun v H1 => td σ H1 fun x H2 => ty σ H2 fun y H3 => ∃ a H4, x = .ref a ∧ DPut H3 a y v H4 ∧ D.nx σ H4
def sDAug (td ty tv : TE) (rd : V → V → Hp → VK → Prop) : TS := fun D σ H => td σ H fun x H1 => ty σ H1 fun y H2 => ∃ a v, x = .ref a ∧ DGet H2 a y (some v) ∧
  tv σ H2 fun y2 H3 => rd v y2 H3 fun z H4 => ∃ H5, DPut H4 a y z H5 ∧ D.nx σ H5
def sDDel (td ty : TE) : TS := fun D σ H => td σ H fun x H1 => ty σ H1 fun y H2 => ∃ a kvs k, x = .ref a ∧ H2 a = some (.dK kvs) ∧ y = kV k ∧ (valV kvs k).isSome = true ∧ D.nx σ (upd H2 a (.dK (dropK kvs k)))

section
variable {X : Cx} {o i e value : Expr} {pos pos' tpos : Pos} {td ty tv : TE}
theorem pe_dget (hu : X.A.units + 1 < cLine) (ho : PE X o td) (hi : PE X i ty) (hs : NoSl i) : PE X (.Subscript o i pos) (tDGet td ty) := by
  intro pins s σ H Q I h
  refine subD_of PySem.F.slot_dict_getitem.lookup hs (thn (ho pins s σ H _ I h) fun u s1 ⟨x, H1, I1, rx, q1⟩ => thn (hi pins s1 σ H1 _ I1 q1) fun iv s2 ⟨y, H2, I2, ry, a, v, ex, g, q2⟩ => ?_)
  subst ex
  obtain rfl : u = Value.ref a := rx
  exact ⟨dict_typeIs I2 g, d_getItem hu I2 g ry fun w' s3 I3 rw' => ⟨v, H2, I3, rw', q2⟩⟩
theorem pc_din (hu : X.A.units + 1 < cLine) (hi : PE X i ty) (ho : PE X o td) : PC X .In i o (tDIn ty td) := by
  intro pins s σ H Q I h
  refine thn (hi pins s σ H _ I h) fun iv s1 ⟨y, H1, I1, ry, q1⟩ => thn (ho pins s1 σ H1 _ I1 q1) fun u s2 ⟨x, H2, I2, rx, a, ov, ex, g, q2⟩ => ?_
  subst ex
  obtain rfl : u = Value.ref a := rx
  exact d_in hu I2 g ry fun s3 I3 => ⟨.bl ov.isSome, H2, I3, rfl, q2⟩
theorem pc_dnotin (hu : X.A.units + 1 < cLine) (hi : PE X i ty) (ho : PE X o td) : PC X .NotIn i o (tDNotIn ty td) := by
  intro pins s σ H Q I h
  refine thn (hi pins s σ H _ I h) fun iv s1 ⟨y, H1, I1, ry, q1⟩ => thn (ho pins s1 σ H1 _ I1 q1) fun u s2 ⟨x, H2, I2, rx, a, ov, ex, g, q2⟩ => ?_
  subst ex
  obtain rfl : u = Value.ref a := rx
  exact d_notIn hu I2 g ry fun s3 I3 => ⟨.bl (!ov.isSome), H2, I3, rfl, q2⟩
theorem ps_dput (hu : X.A.units + 1 < cLine) (ho : PE X o td) (hi : PE X i ty) (hv : PE X value tv) (hs : swapsWith value (some (.Subscript o i pos')) pos.line X.env = pure false) :
    PS X (.Assign [.Subscript o i pos'] value pos) (sDPut td ty tv) := by
  intro pins s σ H D I h
  refine wpAny_Assign_Subscript (thn (hv pins s σ H _ I h) fun r s1 ⟨v, H1, I1, rv, q1⟩ => thn (ho pins s1 σ H1 _ I1 q1) fun u s2 ⟨x, H2, I2, rx, q2⟩ => thn (hi pins s2 σ H2 _ I2 q2) fun iv s3 ⟨y, H3, I3, ry, a, H4, ex, g, q3⟩ => ?_) hs
  subst ex
  obtain rfl : u = Value.ref a := rx
  exact d_setItem hu I3 g ry rv fun s4 I4 => ⟨σ, H4, I4, q3⟩
end


theorem dk_empty {P : Program} {w : World} {H : Hp} (h : Heap) (hb : sysModules < h.objs.size) : ObjOk P w H (h.push { cls := .type "dict", data := .dict #[] }) h.objs.size (.dK []) :=
  ⟨Nat.zero_le _, beq_eq_false_iff_ne.mpr (Ne.symm (Nat.ne_of_lt hb)), [], .nil, Heap.DictOf.new h⟩
def tDNewK : TE := fun _ H Q => ∀ p, H p = none → Q (.ref p) (upd H p (.dK []))
def tDNewT : TE := fun _ H Q => ∀ p, H p = none → Q (.ref p) (upd H p (.dT []))
section
variable {X : Cx} {pos : Pos}
theorem pe_dnewK : PE X (.Dict [] [] pos) tDNewK := fun pins s σ H Q I h =>
  wpAny_Dict_empty ⟨.ref s.heap.objs.size, _, I.laid (a := s.heap.objs.size) (o := .dK []) (t' := s.toks) (fun _ _ q => Heap.get?_push_of_some _ q) (Nat.le_refl _) (dk_empty s.heap I.big), rfl, h _ (I.hok.fresh (Nat.le_refl _))⟩
end

def tPairs : List (TE × TE) → St → Hp → (List (V × V) → Hp → Prop) → Prop
  | [], _, H, Q => Q [] H
  | (tk, tv) :: r, σ, H, Q => tk σ H fun x H1 => tv σ H1 fun y H2 => tPairs r σ H2 fun ps H3 => Q ((x, y) :: ps) H3
abbrev VV : List (V × V) → List (Value × Value) → Prop := Paired fun p q => RelV p.1 q.1 ∧ RelV p.2 q.2
def PPs (X : Cx) (pos : Pos) (keys : List (Option Expr)) (values : List Expr) (trs : List (TE × TE)) : Prop :=
  ∀ (pins : List (Addr × Obj)) (s : Shared) (σ : St) (H : Hp) (Q : List (V × V) → Hp → Prop), Inv X pins σ H s → tPairs trs σ H Q →
    wpAny (model X.prog X.w) X.A (evalPairs (pairTrees keys values X.env pos)) (fun vs s' => ∃ ps H', Inv X pins σ H' s' ∧ VV ps vs ∧ Q ps H') X.xe s
def mergeK (kvs more : List (Key × V)) : List (Key × V) := more.foldl (fun acc kv => putK acc kv.1 kv.2) kvs
def tDisp (trs : List (TE × TE)) : TE := fun σ H Q => ∀ p, H p = none → tPairs trs σ (upd H p (.dK [])) fun ps H2 => H2 p = some (.dK []) ∧ ∃ kvs : List (Key × V), ps = kvs.map (fun kv => (kV kv.1, kv.2)) ∧ kvs.length ≤ 15 ∧ Q (.ref p) (upd H2 p (.dK (mergeK [] kvs)))
structure M1 (X : Cx) (o : Expr) (m : Str) (apos : Pos) (e : Expr) (cpos : Pos) : Prop where
  base : attributeBase o m X.env (eval o X.env) = eval o X.env
  few : ((backTo cpos (starEach [e] X.env)).all (fun x => !x.1) && (backToKw cpos (keywordEach [] X.env)).all (fun x => x.1.isSome)
    && decide (([e] : List Expr).length + ([] : List Keyword).length + (if ([] : List Keyword).isEmpty then 0 else 1) < 30)) = true
  line : (apos.endLine == cpos.line) = true
  trees : backTo cpos (starEach [e] X.env) = [(false, eval e X.env)]
structure M2 (X : Cx) (o : Expr) (m : Str) (apos : Pos) (e f : Expr) (cpos : Pos) : Prop where
  base : attributeBase o m X.env (eval o X.env) = eval o X.env
  few : ((backTo cpos (starEach [e, f] X.env)).all (fun x => !x.1) && (backToKw cpos (keywordEach [] X.env)).all (fun x => x.1.isSome)
    && decide (([e, f] : List Expr).length + ([] : List Keyword).length + (if ([] : List Keyword).isEmpty then 0 else 1) < 30)) = true
  line : (apos.endLine == cpos.line) = true
  trees : backTo cpos (starEach [e, f] X.env) = [(false, eval e X.env), (false, eval f X.env)]

def IsD (H : Hp) (a : Addr) : Prop := (∃ kvs, Rd H a (.dK kvs)) ∨ ∃ kvs, Rd H a (.dT kvs)
theorem isD_at {X : Cx} {pins : List (Addr × Obj)} {σ : St} {H : Hp} {s : Shared} {a : Addr} (I : Inv X pins σ H s) (d : IsD H a) :
    s.TypeIs (.ref a) "dict" ∧ (∀ b, Value.ref a = .ref b → ∃ ob, s.heap.get? b = some ob ∧ ob.dict = none) ∧ (a == sysModules) = false := by
  rcases d with ⟨kvs, e⟩ | ⟨kvs, e⟩
  · obtain ⟨_, hd, vs, _, dd⟩ := dk_rd I.hok e
    refine ⟨dd.typeIs, fun b q => ?_, hd⟩
    cases q
    obtain ⟨ob, _, _, h1, h2, _⟩ := dd
    exact ⟨ob, h1, h2.2.1⟩
  · obtain ⟨_, hd, xs, _, dd⟩ := dt_rd I.hok e
    refine ⟨dd.typeIs, fun b q => ?_, hd⟩
    cases q
    obtain ⟨ob, _, _, h1, h2, _⟩ := dd
    exact ⟨ob, h1, h2.2.1⟩

section
variable {X : Cx} {pins : List (Addr × Obj)} {σ : St} {H : Hp} {s : Shared} {a : Addr} {y d : V} {u r : Value} {o : Option V} {A : Around} {E : Value → Shared → Prop}
theorem d_get1 {Q : Value → Shared → Prop} (hu : A.units + 1 < cLine) (I : Inv X pins σ H s) (g : DGet H a y o) (ry : RelV y u) (h : ∀ w' s', Inv X pins σ H s' → RelV (o.getD .non) w' → Q w' s') :
    wpAny (model X.prog X.w) A (call (.builtin "dict.get") [.ref a, u]) Q E s := by
  rcases g with ⟨kvs, k, e, ey, l⟩ | ⟨kvs, k, b, e, ey, eb, l⟩
  · subst ey
    obtain ⟨z, hd, vs, rel, dd⟩ := dk_rd I.hok e
    refine call_meetsIn PySem.F.slot_dict_get dd.typeIs PySem.F.entry_dict_get (PySem.F.args_dict_get_2 _ _) (meets_dict_get (mixKind X.prog X.w) a (kV_is ry) hd) ⟨_, dd.mapOf, h _ _ (I.tok _) ?_⟩
    rw [l]
    exact (rel.val k).getD rfl
  · subst ey
    cases (show u = Value.ref b from ry)
    obtain ⟨z, hd, xs, rel, dd⟩ := dt_rd I.hok e
    refine call_meetsIn PySem.F.slot_dict_get dd.typeIs PySem.F.entry_dict_get (PySem.F.args_dict_get_2 _ _) (meetsH_dict_get (tupleKind (mixKind X.prog X.w)) a b hd) ⟨tupleKind_room_in1 hu, k, xs, key_of I.hok eb, dd, h _ _ (I.tok _) ?_⟩
    rw [l]
    exact (rel.val k).getD rfl
end

def tDGet1 (td ty : TE) : TE := fun σ H Q => td σ H fun x H1 => ∃ a, x = .ref a ∧ IsD H1 a ∧ ty σ H1 fun y H2 => ∃ o, DGet H2 a y o ∧ Q (o.getD .non) H2
def tDGet2 (td ty tx : TE) : TE := fun σ H Q => td σ H fun x H1 => ∃ a, x = .ref a ∧ IsD H1 a ∧ ty σ H1 fun y H2 => tx σ H2 fun z H3 => ∃ o, DGet H3 a y o ∧ Q (o.getD z) H3
def tDPop1 (td ty : TE) : TE := fun σ H Q => td σ H fun x H1 => ∃ a, x = .ref a ∧ IsD H1 a ∧ ty σ H1 fun y H2 => ∃ kvs k v, H2 a = some (.dK kvs) ∧ y = kV k ∧ valV kvs k = some v ∧ Q v (upd H2 a (.dK (dropK kvs k)))
def tDPop2 (td ty tx : TE) : TE := fun σ H Q => td σ H fun x H1 => ∃ a, x = .ref a ∧ IsD H1 a ∧ ty σ H1 fun y H2 => tx σ H2 fun z H3 => ∃ kvs k, H3 a = some (.dK kvs) ∧ y = kV k ∧
  (∀ v, valV kvs k = some v → Q v (upd H3 a (.dK (dropK kvs k)))) ∧ (valV kvs k = none → Q z H3)
section
variable {X : Cx} {o e f : Expr} {apos cpos : Pos} {td ty tx : TE}
theorem pe_dget1 (hu : X.A.units + 1 < cLine) (ho : PE X o td) (he : PE X e ty) (m : M1 X o "get" apos e cpos) : PE X (.Call (.Attribute o "get" apos) [e] [] cpos) (tDGet1 td ty) := by
  intro pins s σ H Q I h
  refine wpAny_Call_method m.base m.few m.line PySem.F.plainAttrs_dict PySem.F.slot_dict_get PySem.F.type_dict_get (thn (ho pins s σ H _ I h) fun u s1 ⟨x, H1, I1, rx, a, ex, d, q1⟩ => ?_)
  subst ex
  obtain rfl : u = Value.ref a := rx
  obtain ⟨t1, t2, _⟩ := isD_at I1 d
  refine ⟨t1, t2, ?_⟩
  rw [m.trees]
  refine Calls.callWith_builtin rfl (Calls.evalArgs_plain (Calls.spliced_cons (thn (he pins s1 σ H1 _ I1 q1) fun iv s2 ⟨y, H2, I2, ry, ov, g, q2⟩ => Calls.spliced_nil ?_)))
  exact d_get1 hu I2 g ry fun w' s3 I3 rw' => ⟨_, H2, I3, rw', q2⟩
end

section
variable {X : Cx} {pins : List (Addr × Obj)} {σ : St} {H : Hp} {s : Shared} {a : Addr} {kvs : List (Key × V)} {A : Around} {E : Value → Shared → Prop}
end


section
variable {X : Cx} {pins : List (Addr × Obj)} {σ : St} {H : Hp} {s : Shared} {a : Addr} {y : V} {u : Value} {A : Around} {E : Value → Shared → Prop}
end
end L2

namespace Att
open PySem PySem.W PySem.Calls PyProof.Rows

theorem ints_of_wellAll {P : Params} {h : Heap} : ∀ (ns : List Int) (vs : List Value), WellAll P h vs (ns.map WData.int) → IntsAre vs ns := by
  intro ns
  induction ns with
  | nil =>
    intro vs w
    rw [List.map_nil] at w
    cases w
    exact .nil
  | cons n ns ih =>
    intro vs w
    rw [List.map_cons] at w
    cases w with
    | cons a b =>
      cases a
      exact .cons _ _ (ih _ b)

theorem script_of {l : OpenLaw} {n : Nat} (hn : l.most = some n) {P : Params} {h : Heap} {args : List WData} {vals : List Value}
    (hpre : l.row.toRowW.claim.pre args = true) (hwl : WellAll P h vals args) :
    ∃ a vs ns, vals = [Value.ref a] ∧ args = [WData.list (ns.map WData.int)] ∧ h.get? a = some { cls := .type "list", data := .seq vs.toArray } ∧ IntsAre vs ns ∧ ns.length ≤ n := by
  have hsh : WShape.hasAll [] args [.list .int] = true := (pre_splitW hpre).1
  have hc : l.pre.holds [] { args := args } = true := (pre_splitW hpre).2
  obtain ⟨d, r, rfl, h1, h2⟩ := hasAllW_cons hsh
  obtain rfl := hasAllW_nil h2
  obtain ⟨xs, rfl, h3⟩ := hasW_list h1
  obtain ⟨ns, rfl⟩ := items_int h3
  have hlen : ns.length ≤ n := by
    unfold OpenLaw.pre at hc
    have h4 : (WTm.not (.lt (.lit (.int (n : Int))) (.len (.arg 0)))).holds [] { args := [.list (ns.map .int)] } = true := by
      have h4 := (holds_andW hc).1
      rw [hn] at h4
      exact h4
    have h5 := condW_of h4 (w_not (w_lt w_lit (w_len_list (w_arg rfl))))
    rw [List.length_map] at h5
    refine Nat.le_of_not_lt fun q => ?_
    have q' : (n : Int) < ((ns.length : Nat) : Int) := by omega
    first
      | (rw [decide_eq_true q'] at h5; exact absurd h5 (by decide))
      | (simp at h5; omega)
  cases hwl with
  | cons w1 w2 =>
    cases w2
    cases w1 with
    | list ho hall => exact ⟨_, _, ns, rfl, rfl, ho, ints_of_wellAll ns _ hall, hlen⟩

theorem post_true (l : OpenLaw) (args : List WData) : l.row.toRowW.claim.post args (.bool true) args = true :=
  postW_of (r := l.row.toRowW) (X := (true == true))
    (show WShape.has [] (.bool true) .bool = true by first | rfl | decide | simp [WShape.has, WShape.arms, WShape.armsAll])
    (show (WTm.eq .res (.lit (.bool true))).value [] { args := args, res := some (.bool true), after := args } = some (.bool (true == true)) from w_eq_bool (w_res rfl) w_lit) rfl

theorem attach_call {l : OpenLaw} {n : Nat} {q : Program} {loose : List Str} {XP : (Str → Option Value) → Heap → Prop} {YP : World → Heap → Prop} {d : DefRec}
    (hn : l.most = some n) (hdf : d.params.defaults = [])
    (call : ∀ (w : World) (s₀ s₁ : Shared) (mg mb : Str → Option Value) (fa : Addr) (o : Obj) (pm cd doc : Value) (a : Addr) (vs : List Value) (ns : List Int),
      Ground q loose [] XP w s₀ mg mb s₁.heap → YP w s₁.heap →
      s₁.heap.get? fa = some o → o.data = .func (docDef d.name d.params d.body d.scope pm cd doc) → s₁.heap.CodeRec cd d.name → mg d.name = some (.ref fa) →
      s₁.heap.get? a = some { cls := .type "list", data := .seq vs.toArray } → IntsAre vs ns → ns.length ≤ n → s₁.gens = #[] →
      codeAny (model l.prog w) callerA (.call (.ref fa) ⟨[.ref a], []⟩) (fun r s' => r = .ok (.ret (.bool true)) ∧ OldK s₁.heap s'.heap ∧ s'.os = s₁.os ∧ AllBare s'.gens) s₁) :
    WalkO q loose XP YP l.row.toRowW d [] (fun f vs => PySem.call f vs) := by
  intro w s₀ s₁ mg mb G Y fa o pm cd doc dV kV ho hd hcd hD hmg hg args vals as hpre hlay hrd hwl hlo
  obtain rfl : dV = .none := Dflts.none hD hdf
  obtain rfl : kV = .none := Dflts.noKw hD
  obtain ⟨a, vs, ns, rfl, rfl, hobj, hints, hlen⟩ := script_of hn hpre hwl
  refine enter_call (codeAny_mono (call w s₀ s₁ mg mb fa o pm cd doc a vs ns G Y ho (fd_plain hd) hcd hmg hobj hints hlen hg) fun r s' hq => ?_)
  obtain ⟨rfl, h2, h3, h4⟩ := hq
  exact ⟨.inl ⟨.bool true, .bool true, [], rfl, fun _ => rfl, .bool true, post_true l _, fun _ => ⟨List.Pairwise.nil, fun _ hm => (nomatch hm)⟩⟩, h2, h3, h4⟩

section
variable {prog : Program} {w : World} {A : Around} {E : Value → Shared → Prop} {s : Shared} {K : Frag}

def noObjs (h : Heap) : Heap := { h with objs := #[] }
def ledger (h : Heap) (L d : Addr) : List (Addr × Obj) := (List.range h.objs.size).filterMap fun a => if a = L ∨ a = d then none else (h.get? a).map fun o => (a, o)
end
end Att

namespace L2
open PySem PySem.Spec PyProof.Rows

theorem vals_ints : ∀ {vs : List Value} {ns : List Int}, IntsAre vs ns → Vals (ns.map V.int) vs
  | _, _, .nil => .nil
  | _, _, .cons n t h => .cons ⟨t, rfl⟩ (vals_ints h)

def Only (H : Hp) : Prop := ∀ b, H b = none ∨ ∃ o xs, H b = some (.frz o (.lst xs))

theorem law_call {P : Program} {w : World} {K : PySem.W.Frag} {mg mb : Str → Option Value} {CX : CXT} {k : Nat} {fa a : Addr} {fd : FuncData} {x : Str} {sp : Sp} {s₁ : Shared} {vs : List Value} {ns : List Int}
    (KX : K.In s₁.heap) (hns : s₁.heap.Ns mainGlobals mg) (hb : s₁.heap.Ns builtinsNs mb) (hbb : ∀ x : Str, x ≠ "__name__" → mb x = bootBuiltins x) (hlim : s₁.heap.NoLimit) (hg : s₁.gens = #[])
    (ha : s₁.heap.get? a = some { cls := .type "list", data := .seq vs.toArray }) (hi : IntsAre vs ns) (hl : ns.length ≤ sizeLine) (hr : Room k callerA)
    (F : ∀ base : Heap, K.In base → base.Ns mainGlobals mg → FnOk P w K mg base CX k fa fd [x] sp) (hbind : ∀ (s : Shared) (u : Value), BindsTo s fd ⟨[u], []⟩ [(x, u)])
    (hsp : ∀ H : Hp, Only H → SqL K H a (ns.map V.int) → sp [.ref a] H (fun v _ => v = .bl true) fun _ _ _ => False)
    (hCX : ∀ H e s', CX [] H s₁ (fun _ _ _ => False) e s' → False) :
    codeAny (model P w) callerA (.call (.ref fa) ⟨[.ref a], []⟩) (fun r s' => r = .ok (.ret (.bool true)) ∧ OldK s₁.heap s'.heap ∧ s'.os = s₁.os ∧ AllBare s'.gens) s₁ := by
  have rv := vals_ints hi
  have lenV := hi.length
  -- from an abstract heap in which nothing but the script may be tracked
  have core : ∀ H : Hp, Only H → SqL K H a (ns.map V.int) → HOk P w H s₁.heap → (∀ b, H b ≠ none → b = a) → (H a ≠ none → K.lookup a = none) →
      codeAny (model P w) callerA (.call (.ref fa) ⟨[.ref a], []⟩) (fun r s' => r = .ok (.ret (.bool true)) ∧ OldK s₁.heap s'.heap ∧ s'.os = s₁.os ∧ AllBare s'.gens) s₁ := by
    intro H hO hS hok hA hK
    have base_of : ∀ {b : Addr} {o : Obj}, s₁.heap.get? b = some o → H b = none → (hidT s₁.heap H).get? b = some o := fun e n => hidT_get e n
    have noA : ∀ {b : Addr} {o : Obj} {es : Array DictEntry} {ep : Nat}, s₁.heap.get? b = some o → o.data = .dict es ep → H b = none := fun {b o es ep} e d => by
      cases q : H b with
      | none => rfl
      | some u =>
        have e' : b = a := hA b (by rw [q]; simp)
        subst e'
        rw [ha] at e; cases e
        have d' : Data.seq vs.toArray _ = Data.dict es ep := d
        cases d'
    have nsK : ∀ {b : Addr} {m : Str → Option Value}, s₁.heap.Ns b m → (hidT s₁.heap H).Ns b m := fun {b m} ⟨o, es, ep, e, d, r⟩ => ⟨o, es, ep, base_of e (noA e d), d, r⟩
    have hKb : K.In (hidT s₁.heap H) := fun b o e => base_of (KX b o e) (by
      cases q : H b with
      | none => rfl
      | some u =>
        have e' : b = a := hA b (by rw [q]; simp)
        subst e'
        rw [hK (by rw [q]; simp)] at e; cases e)
    have hM : Mod K mg (hidT s₁.heap H) := ⟨hKb, nsK hns, ⟨mb, nsK hb, hbb⟩, let ⟨mc, h1, h2⟩ := hlim; ⟨mc, nsK h1, h2⟩⟩
    have e0 : Env0 P w K mg (hidT s₁.heap H) callerA [] s₁ H := ⟨rfl, hM, fun b o e => of_hidT e, Nat.le_of_eq (hidT_size _ _), trivial, fun b hb => absurd (show b ∈ ([] : List Addr) from hb) (by simp), hok, .of_eq hg⟩
    refine codeAny_mono ((F _ hKb (nsK hns)).run callerA [] s₁ H ⟨[.ref a], []⟩ [.ref a] [.ref a] _ _ hr e0 (hbind s₁ (.ref a)) (.cons rfl .nil) (hsp H hO hS)) fun r s' h => ?_
    cases r with
    | error e => exact (hCX H e s' h).elim
    | ok fl =>
      cases fl with
      | next => exact False.elim h
      | brk => exact False.elim h
      | cont => exact False.elim h
      | ret u =>
        obtain ⟨v, H', os, bare, un, hok', r', q⟩ := h
        have q' : v = .bl true := q
        subst q'
        obtain rfl : u = Value.bool true := r'
        refine ⟨rfl, OldK.of_keep fun b o e => ?_, os, bare⟩
        cases q : H b with
        | none => exact un.keep b o e q (by intro z; exact absurd (show b ∈ ([] : List Addr) from z) (by simp)) (by simp)
        | some u =>
          rcases hO b with z | ⟨ob, xs, z⟩
          · rw [q] at z; cases z
          · have z2 := un.frzs b ob _ z
            obtain ⟨e1, _⟩ := hok b _ z
            obtain ⟨e2, _⟩ := hok' b _ z2
            rw [e] at e1; cases e1
            exact e2
  cases hk : K.lookup a with
  | some o =>
    -- the script is one of the module's own objects
    have e := KX a o hk
    rw [ha] at e
    cases e
    refine core (fun _ => none) (fun _ => .inl rfl) (.inr ⟨_, vs.toArray, _, hk, rfl, rfl, rfl, by rw [List.size_toArray, lenV]; exact hl, by simpa using rv⟩) (fun b u z => by have z' : (none : Option HO) = some u := z; cases z') (fun b z => absurd rfl z) fun z => absurd rfl z
  | none =>
    refine core (fun b => if b = a then some (.frz { cls := .type "list", data := .seq vs.toArray } (.lst (ns.map V.int))) else none) (fun b => ?_) (.inl (.inr ⟨{ cls := .type "list", data := .seq vs.toArray }, if_pos rfl⟩)) (fun b u z => ?_) (fun b z => ?_) fun _ => hk
    · by_cases hb : b = a
      · exact .inr ⟨_, _, if_pos hb⟩
      · exact .inl (if_neg hb)
    · by_cases hb : b = a
      · have z' := (if_pos hb).symm.trans z
        cases z'
        subst hb
        exact ⟨ha, by rw [List.length_map]; exact hl, vs, _, rv, ha⟩
      · have z' := (if_neg hb).symm.trans z
        cases z'
    · by_cases hb : b = a
      · exact hb
      · exact absurd (if_neg hb) z
end L2

namespace L2
open PySem PySem.Spec PyProof.Rows

abbrev KOf {K : PySem.W.Frag} {h : Heap} (_ : K.In h) : PySem.W.Frag := K

theorem walk_of {l : PySem.W.OpenLaw} {n k : Nat} {q : Program} {loose : List Str} {XP : (Str → Option Value) → Heap → Prop} {YP : World → Heap → Prop} {d : DefRec} {K : Params → PySem.W.Frag} {CX : World → CXT} {sp : World → Sp} {x : Str}
    (hn : l.most = some n) (hn2 : n ≤ sizeLine) (hdf : d.params.defaults = []) (hr : Room k callerA)
    (hY : ∀ (w : World) (h : Heap), YP w h → (K w.params).In h)
    (F : ∀ (w : World) (mg : Str → Option Value) (fa : Addr) (h : Heap), (K w.params).In h → h.Ns mainGlobals mg → mg d.name = some (.ref fa) →
      ∃ fd : FuncData, (∀ (s : Shared) (u : Value), BindsTo s fd ⟨[u], []⟩ [(x, u)]) ∧
        ∀ base : Heap, (K w.params).In base → base.Ns mainGlobals mg → FnOk l.prog w (K w.params) mg base (CX w) k fa fd [x] (sp w))
    (hsp : ∀ (w : World) (H : Hp) (a : Addr) (ns : List Int), ns.length ≤ n → Only H → SqL (K w.params) H a (ns.map V.int) → sp w [.ref a] H (fun v _ => v = .bl true) fun _ _ _ => False)
    (hCX : ∀ (w : World) (H : Hp) (s : Shared) (e : Value) (s' : Shared), CX w [] H s (fun _ _ _ => False) e s' → False) :
    PySem.W.WalkO q loose XP YP l.row.toRowW d [] (fun f vs => PySem.call f vs) := by
  refine Att.attach_call hn hdf fun w s₀ s₁ mg mb fa o pm cd doc a vs ns G Y ho hd hcd hmg hobj hints hlen hg => ?_
  have KX := hY w _ Y
  obtain ⟨fd, hb, hF⟩ := F w mg fa _ KX G.T.g hmg
  exact law_call KX G.T.g G.T.b G.T.builtins G.T.nolimit hg hobj hints (Nat.le_trans hlen hn2) hr hF hb (fun H hO hS => hsp w H a ns hlen hO hS) fun H e s' => hCX w H s₁ e s'
theorem walk_ofK {l : PySem.W.OpenLaw} {n k : Nat} {q : Program} {loose : List Str} {XP : (Str → Option Value) → Heap → Prop} {YP : World → Heap → Prop} {d : DefRec} {K : Params → PySem.W.Frag} {CX : CXT} {sp : PySem.W.Frag → Sp} {x : Str}
    (hn : l.most = some n) (hn2 : n ≤ sizeLine) (hdf : d.params.defaults = []) (hr : Room k callerA)
    (hY : ∀ (w : World) (h : Heap), YP w h → (K w.params).In h)
    (F : ∀ (w : World) (mg : Str → Option Value) (fa : Addr) (h : Heap), (K w.params).In h → h.Ns mainGlobals mg → mg d.name = some (.ref fa) →
      ∃ fd : FuncData, (∀ (s : Shared) (u : Value), BindsTo s fd ⟨[u], []⟩ [(x, u)]) ∧
        ∀ base : Heap, (K w.params).In base → base.Ns mainGlobals mg → FnOk l.prog w (K w.params) mg base CX k fa fd [x] (sp (K w.params)))
    (hsp : ∀ (K : PySem.W.Frag) (H : Hp) (a : Addr) (ns : List Int), ns.length ≤ n → Only H → SqL K H a (ns.map V.int) → sp K [.ref a] H (fun v _ => v = .bl true) fun _ _ _ => False)
    (hCX : ∀ (H : Hp) (s : Shared) (e : Value) (s' : Shared), CX [] H s (fun _ _ _ => False) e s' → False) :
    PySem.W.WalkO q loose XP YP l.row.toRowW d [] (fun f vs => PySem.call f vs) :=
  walk_of (K := K) (CX := fun _ => CX) (sp := fun w => sp (K w.params)) hn hn2 hdf hr hY F (fun w H a ns h1 h2 h3 => hsp (K w.params) H a ns h1 h2 h3) fun _ H s e s' => hCX H s e s'
end L2

/- THE LAST THEOREM (shape; LID, My.* are yours):
   My.Adr: a structure of the addresses that your layer names (classes, functions); My.Txt K t: a structure (Prop) of the equations over K;
   My.txt_mk : {K} {implicit addresses ..} (e1 : nsIn K mainGlobals "law" = some (some (.ref f))) (e2 : K.lookup f = some ⟨oc, od, .func (fnOf "law" "law" params body scope dV kV doc pm an cdv ct), sl⟩) (e3 : codeIn K cdv "law" = true) .. : ∃ t, My.Txt K t

set_option maxRecDepth 100000 in
set_option maxHeartbeats 0 in
theorem PySem.Challenge.cw_LID_holds : PySem.Challenge.rw_LID.Holds := by
  w_on; o_law; k_head; (case hw => w_witness2)
  k_fill
  refine L2.walk_of (l := PySem.Challenge.rw_LID) (n := 63) (k := 40) (x := "script") (CX := fun w => ..) (sp := fun _ => My.sp_law) rfl (by decide) rfl ⟨rfl, by decide, by decide⟩ (fun w h Y => PySem.W.kIn_of Y) ?F ?S ?C
  case F =>
    intro w mg fa h KX G hmg
    have T : ∃ t, My.Txt (L2.KOf KX) t := by
      dsimp only [L2.KOf]                          -- K must stand as «<heap const> w.params» for k_is
      refine' My.txt_mk ?e1 ?e2 ?e3 ..
      (case e1 => PySem.W.k_is)                    -- in the order: a name -> its address -> its object -> its parts
      (case e2 => PySem.W.k_is)
      ..
    obtain ⟨t, T⟩ := T
    have e0 := hmg.symm.trans (PySem.W.mg_of KX G T.law)
    cases e0                                       -- fa is the law's own address
    exact ⟨_, fun s u => .of_eq rfl, fun base kb nb => My.law_fn T kb nb⟩     -- if «.of_eq rfl» comes too early: refine' ⟨_, ?b, fun base kb nb => My.law_fn T kb nb⟩; exact fun s u => .of_eq rfl
  case S => exact fun w H a ns hl hO hS => ..
  case C => exact ..
(the tactic k_is has no namespace: write k_is) -/

namespace L2
open PySem PySem.Spec PyProof.Rows

def inClass (s : Stmt) (j : Nat) : Stmt := match s with
  | .ClassDef _ _ _ body _ _ _ _ _ _ _ => body.getD j (.Pass ⟨0, 0, 0, 0⟩)
  | _ => .Pass ⟨0, 0, 0, 0⟩
def defArgs (s : Stmt) : Arguments := match s with
  | .FunctionDef _ a _ _ _ _ _ _ _ _ => a
  | _ => { posonlyargs := [], args := [], vararg := none, kwonlyargs := [], kw_defaults := [], kwarg := none, defaults := [] }
def defBody (s : Stmt) : List Stmt := match s with
  | .FunctionDef _ _ b _ _ _ _ _ _ _ => b
  | _ => []
def defScope (s : Stmt) : Scope := match s with
  | .FunctionDef _ _ _ _ _ _ sc _ _ _ => sc
  | _ => { kind := .function, names := [], isGenerator := false, isCoroutine := false }

abbrev CX0 : CXT := fun _ _ _ _ _ _ => False
abbrev E0 : XK := fun _ _ _ => False
theorem pass0 {X : Cx} : Passes CX0 X E0 := fun _ _ _ _ _ _ _ h => h.elim

structure Fun (K : PySem.W.Frag) (x qual : Str) (st : Stmt) (f : Addr) (fd : FuncData) : Prop where
  ex : ∃ (oc : Value) (od : Option Addr) (kV doc pm : Value) (an : Option Addr) (cdv ct : Value) (osl : Array (Option Value)),
    fd = PySem.W.fnOf x qual (defArgs st) (defBody st) (defScope st) .none kV doc pm an cdv ct ∧ K.lookup f = some ⟨oc, od, .func fd, osl⟩ ∧ PySem.W.codeIn K cdv qual = true
  kp : PySem.W.keepIn K (.ref f) = true
section
variable {P : Program} {w : World} {K : PySem.W.Frag} {mg : Str → Option Value} {base : Heap}
end
theorem hu_of {A : Around} {k : Nat} (hr : Room k A) : A.units + 1 < cLine := Nat.lt_of_le_of_lt (Nat.add_le_add_left (by decide : 1 ≤ 64) _) hr.units
section
variable {X : Cx}
theorem pv (i : Nat) {x : Str} {pos : Pos} (hN : X.N[i]? = some x := by rfl) (hv : Vis X.env.scope x := by first | exact Or.inl rfl | exact Or.inr (Or.inl rfl) | exact Or.inr (Or.inr rfl)) (hd : (x == ("__debug__" : Str)) = false := by decide)
    (hcd : (x == ("__classdict__" : Str)) = false := by decide) : PE X (.Name x pos) (tVar i) := pe_var hN hv hd hcd
end

theorem iteF {A B : Prop} (h : B) : if false = true then A else B := by
  rw [if_neg Bool.false_ne_true]
  exact h
theorem iteT {A B : Prop} (h : A) : if true = true then A else B := by
  rw [if_pos rfl]
  exact h
def Same (H H' : Hp) : Prop := ∀ b o, H b = some o → H' b = some o
theorem Same.refl (H : Hp) : Same H H := fun _ _ h => h
theorem Same.trans {H H1 H2 : Hp} (a : Same H H1) (b : Same H1 H2) : Same H H2 := fun c o h => b c o (a c o h)
theorem Same.seq {K : PySem.W.Frag} {H H' : Hp} {a : Addr} {xs : List V} (e : Same H H') (h : SqL K H a xs) : SqL K H' a xs := by
  rcases h with (h | ⟨o, h⟩) | h
  · exact .inl (.inl (e _ _ h))
  · exact .inl (.inr ⟨o, e _ _ h⟩)
  · exact .inr h

section
variable {κ : Type} [DecidableEq κ]
end
end L2

namespace L2
open PySem PySem.Spec PyProof.Rows
section
variable {X : Cx}
def CMulB (i j : Int) : Prop := i.natAbs < 2 ^ 2000 ∧ j.natAbs < 2 ^ 2000
theorem CMulB.ok {i j : Int} (h : CMulB i j) : IntMulOk i j := by
  have h1 : Builtin.Int.intBits i ≤ 2000 := PyProof.Rows.intBits_le h.1
  have h2 : Builtin.Int.intBits j ≤ 2000 := PyProof.Rows.intBits_le h.2
  have h3 : Builtin.Int.intTooBig ((Builtin.Int.intBits i + Builtin.Int.intBits j : Nat) : Int) = false := by
    unfold Builtin.Int.intTooBig
    have : (bitsLine : Nat) = 134217728 := rfl
    refine decide_eq_false ?_
    omega
  unfold IntMulOk
  have h4 : Builtin.Int.intTooBig (Builtin.Int.intBits i + Builtin.Int.intBits j) = false := by
    have e : ((Builtin.Int.intBits i : Int) + (Builtin.Int.intBits j : Int)) = ((Builtin.Int.intBits i + Builtin.Int.intBits j : Nat) : Int) := by omega
    rw [e]; exact h3
  rw [h4]
  simp
theorem op_mulB : OpR X (binaryOp .Mult) (rI CMulB fun i j => .int (i * j)) := opI fun _ _ _ _ _ _ _ hc q => mul_int q hc.ok
def CDivB (_ j : Int) : Prop := 0 < j ∧ j.natAbs < 2 ^ 2000
theorem op_fdivB : OpR X (binaryOp .FloorDiv) (rI CDivB fun i j => .int (i / j)) := opI fun i j _ _ _ _ _ hc q => by
  have e : i.fdiv j = i / j := Int.fdiv_eq_ediv_of_nonneg _ (Int.le_of_lt hc.1)
  have hl : j.natAbs.log2 < 9000 := by
    have h0 : j.natAbs ≠ 0 := by have := hc.1; omega
    have h2 : j.natAbs.log2 < 2000 := (Nat.log2_lt h0).mpr hc.2
    omega
  refine floordiv_int (by have := hc.1; omega) ?_ (.inl (PyProof.noPylong_of_log2 hl))
  rw [e]; exact q
inductive ClsV : V → Value → Prop where
  | ty (n : String) : ClsV (.ty n) (.type n)
  | ref (C : Addr) : ClsV (.ref C) (.ref C)
def rIsi (K : PySem.W.Frag) : List V → Hp → VK → Prop := fun xs H Q => ∃ x c cv t b, xs = [x, c] ∧ ClsV c cv ∧ TyOf K H x t ∧ PySem.W.kitOne K t cv = some b ∧ Q (.bl b) H
theorem call_isi : CallR X (.builtin "isinstance") (rIsi X.K) := by
  intro pins s σ H xs us Q I r h
  obtain ⟨x, c, cv, t, b, rfl, hc, ty, e, q⟩ := h
  obtain ⟨u, w', rfl, r1, r2⟩ := vals2 r
  have ew : w' = cv := by cases hc <;> exact r2
  subst ew
  exact isinst_ok I r1 ty e fun tk => ⟨.bl b, H, I.tok tk, rfl, q⟩
structure BaseM (K : PySem.W.Frag) (C : Addr) (m : Str) (f : Addr) : Prop where
  ga : PySem.W.specialIn K (.ref C) "__getattribute__" = some (some (.builtin "type.__getattribute__"))
  rd : PySem.W.readsIn K C (.type "type") = true
  fd : PySem.W.findCls K (.ref C) (.type "type") m = some (.val (.ref f))
  kp : PySem.W.keepIn K (.ref f) = true
theorem pe_base {CX : CXT} {k : Nat} {f C : Addr} {fd : FuncData} {ps : List Str} {sp : Sp} {dvs : List V} {ds : List Value} {E : XK} {x m : Str} {p pos apos : Pos} {e : Expr} {es : List Expr} {t : TA} {pl : Sem Bool}
    (hg : Gl X x) (hm : X.mg x = some (.ref C)) (B : BaseM X.K C m f) (F : FnOk X.prog X.w X.K X.mg X.base CX k f fd ps sp) (hr : Room k X.A) (hb : Binds X.K fd ps ds) (hd : Vals dvs ds) (hx : Passes CX X E) (ha : PA X (e :: es) t)
    (hdb : (x == ("__debug__" : Str)) = false := by decide)
    (hst : starEach (e :: es) X.env = (false, eval e X.env) :: starEach es X.env := by rfl) (hpl : (backTo pos (starEach es X.env)).any (·.1) = false := by rfl)
    (ht : eval (.Call (.Attribute (.Name x p) m apos) (e :: es) [] pos) X.env = (do
      let ov ← eval (.Name x p) X.env
      standAt apos.atName
      let (f, first) ← holding [ov] (getMethod ov m pl)
      callWith pos f first (backTo pos (starEach (e :: es) X.env)) (backToKw pos (keywordEach [] X.env))) := by rfl) :
    PE X (.Call (.Attribute (.Name x p) m apos) (e :: es) [] pos) (tCall sp dvs E t) := by
  intro pins s σ H Q I h
  refine PySem.W.methodCall_KW (pl := pl) (ld_glob I hg hm ?_ hdb) ht
  refine PySem.W.method_cls I.kIn B.ga ?_
  refine PySem.W.cls_value I.kIn B.rd B.fd rfl ?_
  have I' : Inv X pins σ H { s with toks := s.toks + 1 } := I.tok _
  refine PySem.W.callWith_K (first := []) (h₀ := X.base) I.ok.mod.kin B.kp (thn (ha pos pins _ σ H _ I' h) fun us s2 ⟨vs, H2, I2, r, q2⟩ => ⟨I2.kIn, ?_⟩) hst hpl
  exact run_fn F hr hb hd hx I2 r q2
end
end L2

namespace L2
open PySem PySem.Spec PyProof.Rows
mutual
inductive HasD (K : PySem.W.Frag) (H : Hp) : V → PyData → Prop where
  | non : HasD K H .non .none
  | bl (b : Bool) : HasD K H (.bl b) (.bool b)
  | int (i : Int) : HasD K H (.int i) (.int i)
  | str (x : Str) : HasD K H (.str x) (.str x)
  | tup {a : Addr} {xs : List V} {ds : List PyData} (h : SqT K H a xs) (r : HasDs K H xs ds) : HasD K H (.ref a) (.tuple ds)
  | lst {a : Addr} {xs : List V} {ds : List PyData} (h : SqL K H a xs) (r : HasDs K H xs ds) : HasD K H (.ref a) (.list ds)
inductive HasDs (K : PySem.W.Frag) (H : Hp) : List V → List PyData → Prop where
  | nil : HasDs K H [] []
  | cons {x : V} {d : PyData} {xs : List V} {ds : List PyData} (h : HasD K H x d) (r : HasDs K H xs ds) : HasDs K H (x :: xs) (d :: ds)
end
theorem SqT.keeps {K : PySem.W.Frag} {H H' : Hp} {a : Addr} {xs : List V} (e : Same H H') (h : SqT K H a xs) : SqT K H' a xs := by
  rcases h with (h | ⟨o, h⟩) | h
  · exact .inl (.inl (e _ _ h))
  · exact .inl (.inr ⟨o, e _ _ h⟩)
  · exact .inr h
mutual
theorem HasD.keeps {K : PySem.W.Frag} {H H' : Hp} (e : Same H H') : ∀ {v : V} {d : PyData}, HasD K H v d → HasD K H' v d
  | _, _, .non => .non
  | _, _, .bl b => .bl b
  | _, _, .int i => .int i
  | _, _, .str x => .str x
  | _, _, .tup h r => .tup (SqT.keeps e h) (HasDs.keeps e r)
  | _, _, .lst h r => .lst (Same.seq e h) (HasDs.keeps e r)
theorem HasDs.keeps {K : PySem.W.Frag} {H H' : Hp} (e : Same H H') : ∀ {vs : List V} {ds : List PyData}, HasDs K H vs ds → HasDs K H' vs ds
  | _, _, .nil => .nil
  | _, _, .cons h r => .cons (HasD.keeps e h) (HasDs.keeps e r)
end
section
variable {X : Cx} {pins : List (Addr × Obj)} {σ : St} {H : Hp} {s : Shared}
mutual
theorem HasD.reads (I : Inv X pins σ H s) : ∀ {v : V} {d : PyData} {u : Value}, HasD X.K H v d → RelV v u → ∃ as, Reads s.heap u d as
  | _, _, _, .non, r => by cases r; exact ⟨_, .none⟩
  | _, _, _, .bl b, r => by cases r; exact ⟨_, .bool b⟩
  | _, _, _, .int i, r => by obtain ⟨t, rfl⟩ := r; exact ⟨_, .int i t⟩
  | _, _, _, .str x, r => by obtain ⟨t, rfl⟩ := r; exact ⟨_, .str x t⟩
  | _, _, _, .tup h q, r => by
    cases r
    obtain ⟨its, rv, ⟨o, h1, h2, n, h3⟩, _⟩ := I.tuple h
    obtain ⟨as, ra⟩ := HasDs.reads I q rv
    exact ⟨_, .tuple h1 h2 h3 (by simpa using ra)⟩
  | _, _, _, .lst h q, r => by
    cases r
    obtain ⟨its, rv, ⟨o, n, h1, h2, _, h3⟩, _⟩ := I.list h
    obtain ⟨as, ra⟩ := HasDs.reads I q rv
    exact ⟨_, .list h1 h2 h3 (by simpa using ra)⟩
theorem HasDs.reads (I : Inv X pins σ H s) : ∀ {vs : List V} {ds : List PyData} {us : List Value}, HasDs X.K H vs ds → Vals vs us → ∃ as, ReadsAll s.heap us ds as
  | _, _, _, .nil, r => by cases r; exact ⟨_, .nil⟩
  | _, _, _, .cons h q, r => by
    cases r with
    | cons r1 r2 =>
      obtain ⟨as, ra⟩ := HasD.reads I h r1
      obtain ⟨bs, rb⟩ := HasDs.reads I q r2
      exact ⟨_, .cons ra rb⟩
end
end
section
variable {X : Cx}
def rEqD (K : PySem.W.Frag) (f : Bool → Bool) : R2 := fun x y H Q => ∃ d e, HasD K H x d ∧ HasD K H y e ∧ d.canLay0 = true ∧ e.canLay0 = true ∧ d.depth ≤ 8 ∧ Q (.bl (f (PyData.eqv d e))) H
theorem op_eqD (hu : X.A.units + 8 < cLine) : OpR X (compareOp .Eq) (rEqD X.K id) := by
  intro pins s σ H x y v u Q I rx ry h
  obtain ⟨d, e, hd, he, c1, c2, hn, q⟩ := h
  obtain ⟨as, ra⟩ := hd.reads I rx
  obtain ⟨bs, rb⟩ := he.reads I ry
  exact SeqAt.compareEq_reads ra rb c1 c2 (by have := Nat.min_le_left d.depth e.depth; omega) ⟨.bl _, H, I, rfl, q⟩
theorem op_neD (hu : X.A.units + 8 < cLine) : OpR X (compareOp .NotEq) (rEqD X.K not) := by
  intro pins s σ H x y v u Q I rx ry h
  obtain ⟨d, e, hd, he, c1, c2, hn, q⟩ := h
  obtain ⟨as, ra⟩ := hd.reads I rx
  obtain ⟨bs, rb⟩ := he.reads I ry
  exact SeqAt.compareNe_reads ra rb c1 c2 (by have := Nat.min_le_left d.depth e.depth; omega) ⟨.bl _, H, I, rfl, q⟩
end
end L2

namespace L2
open PySem PySem.Spec PyProof.Rows
structure Cal (P : Program) (w : World) (K : PySem.W.Frag) (mg : Str → Option Value) (base : Heap) (k : Nat) (f : Addr) (ps : List Str) (dvs : List V) (sp : Sp) : Prop where
  ex : ∃ (fd : FuncData) (ds : List Value), FnOk P w K mg base CX0 k f fd ps sp ∧ Binds K fd ps ds ∧ Vals dvs ds
section
variable {X : Cx} {k : Nat} {f C : Addr} {ps : List Str} {sp : Sp} {dvs : List V} {x m : Str} {p pos apos : Pos} {e o : Expr} {es : List Expr} {ta : TE} {t : TA}
theorem pc_call (c : Cal X.prog X.w X.K X.mg X.base k f ps dvs sp) (hr : Room k X.A) (hg : Gl X x) (hm : X.mg x = some (.ref f)) (hk : PySem.W.keepIn X.K (.ref f) = true)
    (ha : PA X (e :: es) t) (hdb : (x == ("__debug__" : Str)) = false := by decide) (he : starEach (e :: es) X.env = (false, eval e X.env) :: starEach es X.env := by rfl) (hpl : (backTo pos (starEach es X.env)).any (·.1) = false := by rfl) :
    PE X (.Call (.Name x p) (e :: es) [] pos) (tCall sp dvs E0 t) := by
  obtain ⟨fd, ds, F, hb, hd⟩ := c.ex
  exact pe_call F hr hg hm hk hb hd pass0 ha hdb he hpl
theorem pc_meth {pl : Sem Bool} (he : PE X o ta) (c : Cls X.K C) (hm : Meth X.K C m f) (F : Cal X.prog X.w X.K X.mg X.base k f ps dvs sp) (hr : Room k X.A) (ha : PA X (e :: es) t)
    (hst : starEach (e :: es) X.env = (false, eval e X.env) :: starEach es X.env := by rfl) (hpl : (backTo pos (starEach es X.env)).any (·.1) = false := by rfl)
    (ht : eval (.Call (.Attribute o m apos) (e :: es) [] pos) X.env = (do
      let ov ← eval o X.env
      standAt apos.atName
      let (f, first) ← holding [ov] (getMethod ov m pl)
      callWith pos f first (backTo pos (starEach (e :: es) X.env)) (backToKw pos (keywordEach [] X.env))) := by rfl) :
    PE X (.Call (.Attribute o m apos) (e :: es) [] pos) (tMeth C m sp dvs E0 ta t) := by
  obtain ⟨fd, ds, F, hb, hd⟩ := F.ex
  exact pe_meth he c hm F hr hb hd pass0 ha hst hpl ht
theorem pc_meth0 {pl : Sem Bool} (he : PE X o ta) (c : Cls X.K C) (hm : Meth X.K C m f) (F : Cal X.prog X.w X.K X.mg X.base k f ps dvs sp) (hr : Room k X.A)
    (ht : eval (.Call (.Attribute o m apos) [] [] pos) X.env = (do
      let ov ← eval o X.env
      standAt apos.atName
      let (f, first) ← holding [ov] (getMethod ov m pl)
      callWith pos f first (backTo pos (starEach [] X.env)) (backToKw pos (keywordEach [] X.env))) := by rfl) :
    PE X (.Call (.Attribute o m apos) [] [] pos) (tMeth C m sp dvs E0 ta tNil) := by
  obtain ⟨fd, ds, F, hb, hd⟩ := F.ex
  exact pe_meth0 he c hm F hr hb hd pass0 ht
theorem pc_make (M : Mk X.K C f) (F : Cal X.prog X.w X.K X.mg X.base k f ps dvs sp) (hr : Room (k + 1) X.A) (hg : Gl X x) (hm : X.mg x = some (.ref C))
    (ha : PA X (e :: es) t) (hdb : (x == ("__debug__" : Str)) = false := by decide) (he : starEach (e :: es) X.env = (false, eval e X.env) :: starEach es X.env := by rfl) (hpl : (backTo pos (starEach es X.env)).any (·.1) = false := by rfl) :
    PE X (.Call (.Name x p) (e :: es) [] pos) (tMake C sp dvs E0 t) := by
  obtain ⟨fd, ds, F, hb, hd⟩ := F.ex
  exact pe_make M F hr hg hm hb hd pass0 ha hdb he hpl
end
structure FunD (K : PySem.W.Frag) (x qual : Str) (st : Stmt) (f : Addr) (dV : Value) (fd : FuncData) : Prop where
  ex : ∃ (oc : Value) (od : Option Addr) (kV doc pm : Value) (an : Option Addr) (cdv ct : Value) (osl : Array (Option Value)),
    fd = PySem.W.fnOf x qual (defArgs st) (defBody st) (defScope st) dV kV doc pm an cdv ct ∧ K.lookup f = some ⟨oc, od, .func fd, osl⟩ ∧ PySem.W.codeIn K cdv qual = true
theorem funD_mk {K : PySem.W.Frag} {x qual : Str} {st : Stmt} {f : Addr} {oc : Value} {od an : Option Addr} {osl : Array (Option Value)} {dV kV doc pm cdv ct : Value} (l : K.lookup f = some ⟨oc, od, .func (PySem.W.fnOf x qual (defArgs st) (defBody st) (defScope st) dV kV doc pm an cdv ct), osl⟩)
    (c : PySem.W.codeIn K cdv qual = true) : FunD K x qual st f dV (PySem.W.fnOf x qual (defArgs st) (defBody st) (defScope st) dV kV doc pm an cdv ct) := ⟨⟨oc, od, kV, doc, pm, an, cdv, ct, osl, rfl, l, c⟩⟩
section
variable {P : Program} {w : World} {K : PySem.W.Frag} {mg : Str → Option Value} {base : Heap}
theorem FunD.ok {x qual : Str} {st : Stmt} {f : Addr} {dV : Value} {fd : FuncData} {N ps : List Str} {k : Nat} {sp : Sp} (F : FunD K x qual st f dV fd) (S : FnScope N ps (defScope st)) (len : ∀ vs H Q E, sp vs H Q E → vs.length = ps.length)
    (hbody : ∀ (cdv : Value) (A : Around) (outer : List Env) (s : Shared) (H : Hp) (vs : List V) (Q : VK) (E : XK), Room k (A.deeper (envOfC qual (defScope st) s.heap.objs.size f cdv)) → sp vs H Q E →
      ∃ t, PSs (cxOf CX0 P w K mg base N qual (defScope st) f cdv A outer s H E).nox (defBody st) t ∧ t { nx := fun _ H' => Q .non H', rt := Q } (start N vs) H) : FnOk P w K mg base CX0 (k + 1) f fd ps sp := by
  obtain ⟨oc, od, kV, doc, pm, an, cdv, ct, osl, rfl, lk, hcd⟩ := F.ex
  refine fn_of lk hcd S len fun A outer s H vs Q E hr hsp => ?_
  obtain ⟨t, h, q⟩ := hbody cdv A outer s H vs Q E hr hsp
  exact ⟨t, h.nox, q⟩
theorem FunD.binds {x qual : Str} {st : Stmt} {f : Addr} {dV : Value} {fd : FuncData} {ps : List Str} {ds : List Value} (F : FunD K x qual st f dV fd)
    (h : ∀ (kV doc pm : Value) (an : Option Addr) (cdv ct : Value), Binds K (PySem.W.fnOf x qual (defArgs st) (defBody st) (defScope st) dV kV doc pm an cdv ct) ps ds) : Binds K fd ps ds := by
  obtain ⟨oc, od, kV, doc, pm, an, cdv, ct, osl, rfl, lk, hcd⟩ := F.ex
  exact h kV doc pm an cdv ct
end
end L2

namespace L2
open PySem PySem.Spec PyProof.Rows
structure DefT (K : PySem.W.Frag) (T : Addr) (items : Array Value) : Prop where
  ex : ∃ (o : Obj) (n : Nat), K.lookup T = some o ∧ o.data = .seq items n
structure TyCls (K : PySem.W.Frag) (C : Addr) : Prop where
  ha : PySem.W.findIn K (.ref C) "__class__" = some (some (.builtin "object.__class__"))
  hn : PySem.W.specialIn K (.builtin "object.__class__") "__get__" = some (some (.builtin "getset_descriptor.__get__"))
  ht : PySem.W.takesIn K (.builtin "object.__class__") = some true
  hm : PySem.W.mroIn K C (.type "object") = some true
section
variable {σ : St} {H : Hp} {Q : VK} {D : Ends} {K : PySem.W.Frag}
theorem r_next (h : D.nx σ H) : tNext D σ H := h
theorem r_ret {te : TE} (h : te σ H D.rt) : tRet te D σ H := h
theorem r_drop {te : TE} (h : te σ H fun _ H1 => D.nx σ H1) : tDrop te D σ H := h
theorem r_ifS {c : TT} {t u : TS} (h : c σ H fun b H1 => if b = true then t D σ H1 else u D σ H1) : tIfS c t u D σ H := h
theorem r_asg {te : TE} {i : Nat} (h : te σ H fun x H1 => D.nx (σ.set i (some x)) H1) : tAsg te (gName i) D σ H := h
theorem r_var {i : Nat} {v : V} (e : σ[i]? = some (some v)) (h : Q v H) : tVar i σ H Q := ⟨v, e, h⟩
theorem r_c {v : V} (h : Q v H) : tC v σ H Q := h
theorem r_op {r : R2} {ta tb : TE} (h : ta σ H fun x H1 => tb σ H1 fun y H2 => r x y H2 Q) : tOp r ta tb σ H Q := h
theorem r_i0 {g : Int → Int → V} {i j : Int} (h : Q (g i j) H) : rI0 g (.int i) (.int j) H Q := ⟨i, j, rfl, rfl, h⟩
theorem r_i {C : Int → Int → Prop} {g : Int → Int → V} {i j : Int} (c : C i j) (h : Q (g i j) H) : rI C g (.int i) (.int j) H Q := ⟨i, j, rfl, rfl, c, h⟩
theorem r_test {t : TE} {Q : Bool → Hp → Prop} (h : t σ H fun x H' => ∃ k, x = .bl k ∧ Q k H') : tTest t σ H Q := h
theorem r_and {t u : TT} {Q : Bool → Hp → Prop} (h : t σ H fun c H1 => if c = true then u σ H1 Q else Q false H1) : tAnd t u σ H Q := h
theorem r_or {t u : TT} {Q : Bool → Hp → Prop} (h : t σ H fun c H1 => if c = true then Q true H1 else u σ H1 Q) : tOr t u σ H Q := h
theorem r_not {t : TT} {Q : Bool → Hp → Prop} (h : t σ H fun c H1 => Q (!c) H1) : tNot t σ H Q := h
theorem r_andV {ta tb : TE} (h : ta σ H fun x H1 => ∃ c, x = .bl c ∧ if c = true then tb σ H1 Q else Q (.bl false) H1) : tAndV ta tb σ H Q := h
theorem r_notV {ta : TE} (h : ta σ H fun x H1 => ∃ c, x = .bl c ∧ Q (.bl (!c)) H1) : tNotV ta σ H Q := h
theorem r_bl {b : Bool} {R : Bool → Prop} (h : R b) : ∃ k, V.bl b = .bl k ∧ R k := ⟨b, rfl, h⟩
theorem r_nil {Q : List V → Hp → Prop} (h : Q [] H) : tNil σ H Q := h
theorem r_cons {ta : TE} {tr : TA} {Q : List V → Hp → Prop} (h : ta σ H fun x H1 => tr σ H1 fun xs H2 => Q (x :: xs) H2) : tCons ta tr σ H Q := h
theorem r_cb {r : List V → Hp → VK → Prop} {t : TA} (h : t σ H fun vs H1 => r vs H1 Q) : tCB r t σ H Q := h
theorem r_fld {ta : TE} {f : Str} (h : ta σ H fun x H1 => ∃ a C dx fs v, x = .ref a ∧ H1 a = some (.ins C dx fs) ∧ Cls K C ∧ NoAttr K C f ∧ fs.lookup f = some v ∧ Q v H1) : tFld K ta f σ H Q := h
theorem if_true' {A B : Prop} (h : A) : if true = true then A else B := by rw [if_pos rfl]; exact h
theorem if_false' {A B : Prop} (h : B) : if false = true then A else B := by rw [if_neg Bool.false_ne_true]; exact h
end
end L2

namespace L2
open PySem PySem.Spec PyProof.Rows
section
variable {X : Cx} {e : Expr} {es : List Expr}
theorem PE.weak {t u : TE} (h1 : PE X e t) (h : ∀ σ H Q, u σ H Q → t σ H Q) : PE X e u := fun pins s σ H Q I q => h1 pins s σ H Q I (h σ H Q q)
def mE (t : TE) : TE := fun σ H Q => ∃ Q' : VK, t σ H Q' ∧ ∀ v H', Q' v H' → Q v H'
def mA (t : TA) : TA := fun σ H Q => ∃ Q' : List V → Hp → Prop, t σ H Q' ∧ ∀ v H', Q' v H' → Q v H'
theorem PA.m {t : TA} (h : PA X es t) : PA X es (mA t) := fun pos pins s σ H Q I ⟨Q', q, m⟩ => thn (h pos pins s σ H Q' I q) fun _ _ ⟨v, H', I', r, z⟩ => ⟨v, H', I', r, m v H' z⟩
end
def keyD : Key → PyData
  | .inl i => .int i
  | .inr x => .str x
mutual
inductive Dv (H : Hp) : V → PyData → Prop where
  | non : Dv H .non .none
  | bl (b : Bool) : Dv H (.bl b) (.bool b)
  | int (i : Int) : Dv H (.int i) (.int i)
  | str (x : Str) : Dv H (.str x) (.str x)
  | tup {a : Addr} {xs : List V} {ds : List PyData} (h : H a = some (.tup xs)) (r : Dvs H xs ds) : Dv H (.ref a) (.tuple ds)
  | lst {a : Addr} {xs : List V} {ds : List PyData} (h : Rd H a (.lst xs)) (r : Dvs H xs ds) : Dv H (.ref a) (.list ds)
  | dct {a : Addr} {kvs : List (Key × V)} {ds : List (PyData × PyData)} (h : H a = some (.dK kvs)) (r : Dks H kvs ds) : Dv H (.ref a) (.dict ds)
inductive Dks (H : Hp) : List (Key × V) → List (PyData × PyData) → Prop where
  | nil : Dks H [] []
  | cons {k : Key} {x : V} {d : PyData} {xs : List (Key × V)} {ds : List (PyData × PyData)} (h : Dv H x d) (r : Dks H xs ds) : Dks H ((k, x) :: xs) ((keyD k, d) :: ds)
inductive Dvs (H : Hp) : List V → List PyData → Prop where
  | nil : Dvs H [] []
  | cons {x : V} {d : PyData} {xs : List V} {ds : List PyData} (h : Dv H x d) (r : Dvs H xs ds) : Dvs H (x :: xs) (d :: ds)
end
mutual
theorem Dv.has {K : PySem.W.Frag} {H : Hp} : ∀ {v : V} {d : PyData}, Dv H v d → d.canLay0 = true → HasD K H v d
  | _, _, .non, _ => .non
  | _, _, .bl b, _ => .bl b
  | _, _, .int i, _ => .int i
  | _, _, .str x, _ => .str x
  | _, _, .tup h r, c => .tup (.of h) (Dvs.has r (by simpa [PyData.canLay0] using c))
  | _, _, .lst h r, c => .lst (.inl h) (Dvs.has r (by simpa [PyData.canLay0] using c))
  | _, _, .dct h r, c => by simp [PyData.canLay0] at c
theorem Dvs.has {K : PySem.W.Frag} {H : Hp} : ∀ {v : List V} {d : List PyData}, Dvs H v d → PyData.canLayAll0 d = true → HasDs K H v d
  | _, _, .nil, _ => .nil
  | _, _, .cons h r, c => by
    have c' := c
    simp only [PyData.canLayAll0, Bool.and_eq_true] at c'
    exact .cons (Dv.has h c'.1) (Dvs.has r c'.2)
end
theorem Same.rd {H H' : Hp} {a : Addr} {u : HO} (e : Same H H') (h : Rd H a u) : Rd H' a u := by
  rcases h with h | ⟨o, h⟩
  · exact .inl (e _ _ h)
  · exact .inr ⟨o, e _ _ h⟩
mutual
theorem Dv.keeps {H H' : Hp} (e : Same H H') : ∀ {v : V} {d : PyData}, Dv H v d → Dv H' v d
  | _, _, .non => .non
  | _, _, .bl b => .bl b
  | _, _, .int i => .int i
  | _, _, .str x => .str x
  | _, _, .tup h r => .tup (e _ _ h) (Dvs.keeps e r)
  | _, _, .lst h r => .lst (e.rd h) (Dvs.keeps e r)
  | _, _, .dct h r => .dct (e _ _ h) (Dks.keeps e r)
theorem Dks.keeps {H H' : Hp} (e : Same H H') : ∀ {v : List (Key × V)} {d : List (PyData × PyData)}, Dks H v d → Dks H' v d
  | _, _, .nil => .nil
  | _, _, .cons h r => .cons (Dv.keeps e h) (Dks.keeps e r)
theorem Dvs.keeps {H H' : Hp} (e : Same H H') : ∀ {v : List V} {d : List PyData}, Dvs H v d → Dvs H' v d
  | _, _, .nil => .nil
  | _, _, .cons h r => .cons (Dv.keeps e h) (Dvs.keeps e r)
end
theorem Dvs.length {H : Hp} : ∀ {xs : List V} {ds : List PyData}, Dvs H xs ds → xs.length = ds.length
  | _, _, .nil => rfl
  | _, _, .cons _ r => by simp [Dvs.length r]
theorem Dvs.get {H : Hp} : ∀ {xs : List V} {ds : List PyData} {i : Nat} {d : PyData}, Dvs H xs ds → ds[i]? = some d → ∃ x, xs[i]? = some x ∧ Dv H x d
  | _, _, _, _, .nil, e => by simp at e
  | _, _, 0, _, .cons h _, e => by simp at e; subst e; exact ⟨_, rfl, h⟩
  | _, _, i + 1, x, .cons _ r, e => by
    obtain ⟨d, h1, h2⟩ := Dvs.get (i := i) (d := x) r (by simpa using e)
    exact ⟨d, by simpa using h1, h2⟩
theorem Dvs.append {H : Hp} : ∀ {xs ys : List V} {ds es : List PyData}, Dvs H xs ds → Dvs H ys es → Dvs H (xs ++ ys) (ds ++ es)
  | _, _, _, _, .nil, s => s
  | _, _, _, _, .cons r t, s => .cons r (Dvs.append t s)
theorem Dvs.ints {H : Hp} : ∀ (ns : List Int), Dvs H (ns.map V.int) (ns.map PyData.int)
  | [] => .nil
  | n :: ns => .cons (.int n) (Dvs.ints ns)
theorem Dv.int_inv {H : Hp} {v : V} {i : Int} (h : Dv H v (.int i)) : v = .int i := by cases h; rfl
theorem Dv.str_inv {H : Hp} {v : V} {i : Str} (h : Dv H v (.str i)) : v = .str i := by cases h; rfl
def GotD (H : Hp) (d : PyData) (Q : VK) : Prop := match d with
  | .none => Q .non H
  | .bool b => Q (.bl b) H
  | .int i => Q (.int i) H
  | .str x => Q (.str x) H
  | d => ∀ v, Dv H v d → Q v H
theorem GotD.use {H : Hp} {d : PyData} {Q : VK} (g : GotD H d Q) {v : V} (h : Dv H v d) : Q v H := by
  cases h with
  | non => exact g
  | bl b => exact g
  | int i => exact g
  | str x => exact g
  | tup h r => exact g _ (.tup h r)
  | lst h r => exact g _ (.lst h r)
  | dct h r => exact g _ (.dct h r)
theorem atI_map {H : Hp} {xs : List V} {ds : List PyData} {i : Int} {d : PyData} (r : Dvs H xs ds) (h : atI ds i = some d) : ∃ x, atI xs i = some x ∧ Dv H x d := by
  unfold atI at h ⊢
  rw [r.length]
  cases e : ixN ds.length i with
  | none => rw [e] at h; simp at h
  | some j =>
    rw [e] at h
    have h' : ds[j]? = some d := by simpa using h
    obtain ⟨x, h1, h2⟩ := r.get h'
    exact ⟨x, by simpa using h1, h2⟩
def isSeq (H : Hp) (v : V) (ds : List PyData) : Prop := Dv H v (.tuple ds) ∨ Dv H v (.list ds)
def rIxD : R2 := fun x y H Q => ∃ ds i d, y = .int i ∧ isSeq H x ds ∧ atI ds i = some d ∧ GotD H d Q
theorem rIxD_ok {K : PySem.W.Frag} {x y : V} {H : Hp} {Q : VK} (h : rIxD x y H Q) : rIx K x y H Q := by
  obtain ⟨ds, i, d, rfl, hs, hi, g⟩ := h
  rcases hs with hs | hs
  · cases hs with
    | tup h r =>
      obtain ⟨v, h1, h2⟩ := atI_map r hi
      exact .inr (.inl ⟨_, _, i, v, rfl, rfl, .of h, h1, g.use h2⟩)
  · cases hs with
    | lst h r =>
      obtain ⟨v, h1, h2⟩ := atI_map r hi
      exact .inl ⟨_, _, i, v, rfl, rfl, .inl h, h1, g.use h2⟩
section
variable {X : Cx}
def rIxA : R2 := fun x y H Q => rIxD x y H Q ∨ rIxS x y H Q
theorem ix_A : IxR X rIxA := fun value slice pins s σ H x y v u Q I r1 r2 h => ix_seq value slice pins s σ H x y v u Q I r1 r2 (h.elim rIxD_ok fun z => .inr (.inr z))
def rLenA : List V → Hp → VK → Prop := fun xs H Q => (∃ v ds, xs = [v] ∧ isSeq H v ds ∧ Q (.int (ds.length : Nat)) H) ∨ ∃ z, xs = [.str z] ∧ z.length ≤ sizeLine ∧ Q (.int (z.length : Nat)) H
theorem call_lenA : CallR X (.builtin "len") rLenA := fun pins s σ H xs us Q I r h => by
  rcases h with ⟨v, ds, rfl, hs, q⟩ | h
  · rcases hs with hs | hs
    · cases hs with
      | tup h t => exact call_len_seq pins s σ H _ us Q I r ⟨_, _, rfl, .inr (.of h), by rw [t.length]; exact q⟩
    · cases hs with
      | lst h t => exact call_len_seq pins s σ H _ us Q I r ⟨_, _, rfl, .inl (.inl h), by rw [t.length]; exact q⟩
  · exact call_len_str pins s σ H _ us Q I r h
def tyN : PyData → String
  | .none => "NoneType" | .bool _ => "bool" | .int _ => "int" | .str _ => "str" | .list _ => "list" | .tuple _ => "tuple" | .dict _ => "dict"
def kitBi (t n : String) : Option Bool := if ((Value.type t) == (Value.type n)) = true then some true else if PySem.W.kitMeta n = true then (PySem.fastBuiltinMro t).map (·.contains (.type n)) else none
theorem kitBi_ok {K : PySem.W.Frag} {t n : String} {b : Bool} (h : kitBi t n = some b) : PySem.W.kitOne K (.type t) (.type n) = some b := h
def isiN (t n : String) : Bool := t == n || (t == "bool" && n == "int")
theorem kitBi_all : (["NoneType", "bool", "int", "str", "list", "tuple", "dict"].all fun t => ["int", "bool", "str", "list", "tuple", "dict"].all fun n => kitBi t n == some (isiN t n)) = true := by decide +kernel
theorem kitBi_of {t n : String} (ht : t ∈ ["NoneType", "bool", "int", "str", "list", "tuple", "dict"]) (hn : n ∈ ["int", "bool", "str", "list", "tuple", "dict"]) : kitBi t n = some (isiN t n) := by
  have h := List.all_eq_true.mp (List.all_eq_true.mp kitBi_all t ht) n hn
  exact beq_iff_eq.mp h
theorem tyN_mem (d : PyData) : tyN d ∈ ["NoneType", "bool", "int", "str", "list", "tuple", "dict"] := by
  cases d <;> simp [tyN]
theorem Dv.ty {K : PySem.W.Frag} {H : Hp} {v : V} {d : PyData} (h : Dv H v d) : TyOf K H v (.type (tyN d)) := by
  cases h with
  | non => exact .non
  | bl b => exact .bl b
  | int i => exact .int i
  | str x => exact .str x
  | tup h r => exact .tup h
  | lst h r =>
    rcases h with h | ⟨o, h⟩
    · exact .lst h
    · exact .frz h
  | dct h r => exact .dK h
theorem r_isiD {K : PySem.W.Frag} {H : Hp} {v : V} {d : PyData} {n : String} {Q : VK} (h : Dv H v d) (hn : n ∈ ["int", "bool", "str", "list", "tuple", "dict"]) (q : Q (.bl (isiN (tyN d) n)) H) : rIsi K [v, .ty n] H Q :=
  ⟨v, .ty n, .type n, _, _, rfl, .ty n, h.ty, kitBi_ok (kitBi_of (tyN_mem d) hn), q⟩
def rEqA (K : PySem.W.Frag) (f : Bool → Bool) : R2 := fun x y H Q => (scal x y = true ∧ Q (.bl (f (decide (x = y)))) H) ∨ ∃ d e, Dv H x d ∧ Dv H y e ∧ d.canLay0 = true ∧ e.canLay0 = true ∧ d.depth ≤ 8 ∧ Q (.bl (f (PyData.eqv d e))) H
theorem op_eqA (hu : X.A.units + 8 < cLine) : OpR X (compareOp .Eq) (rEqA X.K id) := fun pins s σ H x y v u Q I rx ry h => by
  rcases h with h | ⟨d, e, h1, h2, h3, h4, h5, h6⟩
  · exact op_eq pins s σ H x y v u Q I rx ry h
  · exact op_eqD hu pins s σ H x y v u Q I rx ry ⟨d, e, h1.has h3, h2.has h4, h3, h4, h5, h6⟩
theorem op_neA (hu : X.A.units + 8 < cLine) : OpR X (compareOp .NotEq) (rEqA X.K not) := fun pins s σ H x y v u Q I rx ry h => by
  rcases h with h | ⟨d, e, h1, h2, h3, h4, h5, h6⟩
  · exact op_ne pins s σ H x y v u Q I rx ry h
  · exact op_neD hu pins s σ H x y v u Q I rx ry ⟨d, e, h1.has h3, h2.has h4, h3, h4, h5, h6⟩
variable {es : List Expr} {t : TA} {pos : Pos}
def TupP (xs : List V) (H1 : Hp) (Q : VK) : Prop := xs.length ≤ sizeLine ∧ ∃ ds, Dvs H1 xs ds ∧ ∀ p H2, Same H1 H2 → H1 p = none → H2 p = some (.tup xs) → Dv H2 (.ref p) (.tuple ds) → Q (.ref p) H2
def LstP (xs : List V) (H1 : Hp) (Q : VK) : Prop := xs.length ≤ sizeLine ∧ ∃ ds, Dvs H1 xs ds ∧ ∀ p H2, Same H1 H2 → H1 p = none → H2 p = some (.lst xs) → Dvs H2 xs ds → Dv H2 (.ref p) (.list ds) → Q (.ref p) H2
def tTupD (t : TA) : TE := fun σ H Q => t σ H fun xs H1 => TupP xs H1 Q
theorem pe_tupD {x1} (h : PA X es t) : PE X (.Tuple es x1 pos) (tTupD t) := PE.weak (pe_tup h.m) fun σ H Q q => ⟨_, q, fun xs H1 ⟨hl, ds, hd, k⟩ => ⟨hl, fun p hp => by
  have sm : Same H1 (upd H1 p (.tup xs)) := fun b u e => by rw [upd_ne (ne_of_none e hp)]; exact e
  exact k p _ sm hp upd_same (.tup upd_same (hd.keeps sm))⟩⟩
def tLstD (t : TA) : TE := fun σ H Q => t σ H fun xs H1 => LstP xs H1 Q
theorem pe_lstD (h : PA X es t) : PE X (.List es pos) (tLstD t) := PE.weak (pe_lst h.m) fun σ H Q q => ⟨_, q, fun xs H1 ⟨hl, ds, hd, k⟩ => ⟨hl, fun p hp => by
  have sm : Same H1 (upd H1 p (.lst xs)) := fun b u e => by rw [upd_ne (ne_of_none e hp)]; exact e
  exact k p _ sm hp upd_same (hd.keeps sm) (.lst (.of upd_same) (hd.keeps sm))⟩⟩
variable {st : Stmt} {rest : List Stmt}
def tCut (t u : TS) : TS := fun D σ H => ∃ R : St → Hp → Prop, t { D with nx := R } σ H ∧ ∀ σ' H', R σ' H' → u D σ' H'
theorem pss_cut {t u : TS} (h1 : PS X st t) (h2 : PSs X rest u) : PSs X (st :: rest) (tCut t u) := by
  intro pins s σ H D I ⟨R, h, k⟩
  refine wpAny_execs_cons (thn (h1 pins s σ H { D with nx := R } I h) fun f s1 q => ?_)
  cases f with
  | next =>
    obtain ⟨σ', H', I', q⟩ := q
    exact h2 pins s1 σ' H' D I' (k _ _ q)
  | ret v => exact q
  | brk => exact q
  | cont => exact q
end
section
variable {σ : St} {H : Hp} {Q : VK} {D : Ends} {K : PySem.W.Frag}
theorem r_cutS {t u : TS} (h : t { D with nx := u D } σ H) : tCut t u D σ H := ⟨u D, h, fun _ _ z => z⟩
theorem r_tupD {t : TA} (h : t σ H fun xs H1 => TupP xs H1 Q) : tTupD t σ H Q := h
theorem r_tupE {xs : List V} {ds : List PyData} (hl : xs.length ≤ sizeLine) (hd : Dvs H xs ds) (k : ∀ v H2, Same H H2 → Dv H2 v (.tuple ds) → Q v H2) : TupP xs H Q := ⟨hl, ds, hd, fun p H2 s _ _ d => k (.ref p) H2 s d⟩
theorem r_lstD {t : TA} (h : t σ H fun xs H1 => LstP xs H1 Q) : tLstD t σ H Q := h
theorem r_eqS {f : Bool → Bool} {x y : V} (e : scal x y = true) (h : Q (.bl (f (decide (x = y)))) H) : rEqA K f x y H Q := .inl ⟨e, h⟩
theorem r_eqD {f : Bool → Bool} {x y : V} {d e : PyData} (h1 : Dv H x d) (h2 : Dv H y e) (h3 : d.canLay0 = true) (h4 : e.canLay0 = true) (h5 : d.depth ≤ 8) (h : Q (.bl (f (PyData.eqv d e))) H) : rEqA K f x y H Q := .inr ⟨d, e, h1, h2, h3, h4, h5, h⟩
theorem r_ixT {x : V} {ds : List PyData} {i : Int} {d : PyData} (hs : isSeq H x ds) (hi : atI ds i = some d) (g : GotD H d Q) : rIxA x (.int i) H Q := .inl ⟨ds, i, d, rfl, hs, hi, g⟩
theorem r_lenD {v : V} {ds : List PyData} (hs : isSeq H v ds) (h : Q (.int (ds.length : Nat)) H) : rLenA [v] H Q := .inl ⟨v, ds, rfl, hs, h⟩
theorem got_int {i : Int} (h : Q (.int i) H) : GotD H (.int i) Q := h
theorem got_non (h : Q .non H) : GotD H .none Q := h
theorem got_str {i : Str} (h : Q (.str i) H) : GotD H (.str i) Q := h
theorem got_lst {ds : List PyData} (h : ∀ v, Dv H v (.list ds) → Q v H) : GotD H (.list ds) Q := h
theorem if_bl {b : Bool} {A B : Prop} (h1 : b = true → A) (h2 : b = false → B) : if b = true then A else B := by
  cases b
  · exact iteF (h2 rfl)
  · exact iteT (h1 rfl)
end
theorem Room.hu8 {k : Nat} {A : Around} (r : Room k A) : A.units + 8 < cLine := Nat.lt_of_le_of_lt (by omega) r.units
end L2

namespace L2
open PySem PySem.Spec PyProof.Rows
theorem Same.at {H H' : Hp} {a : Addr} {o : HO} (s : Same H H') (h : H a = some o) : H' a = some o := s a o h
theorem same_upd {H : Hp} {t : Addr} {o : HO} (h : H t = none) : Same H (upd H t o) := fun b u e => by rw [upd_ne (ne_of_none e h)]; exact e
section
variable {σ : St} {H : Hp} {Q : VK} {D : Ends} {K : PySem.W.Frag}
theorem r_rt {v : V} {R : St → Hp → Prop} {rt : VK} {bk ct : St → Hp → Prop} (h : rt v H) : (Ends.mk R rt bk ct).rt v H := h
end
end L2
namespace L2
open PySem PySem.Spec PyProof.Rows
theorem cls_of_mro {K : PySem.W.Frag} {C : Addr} {b : Value} {r : Bool} (h : PySem.W.mroIn K C b = some r) : (PySem.W.clsIn K C).isSome = true := by
  obtain ⟨cd, e, _⟩ := Option.bind_eq_some_iff.mp h
  rw [e]; rfl
theorem kit_own {K : PySem.W.Frag} {C D : Addr} {b : Bool} (h2 : PySem.W.mroIn K D (.type "object") = some true) (h3 : PySem.W.typeIn K (.ref D) = some (.type "type")) (h : PySem.W.mroIn K C (.ref D) = some b) (hb : C = D → b = true := by intro _; rfl) : PySem.W.kitOne K (.ref C) (.ref D) = some b := by
  unfold PySem.W.kitOne
  split
  · rename_i e
    have : C = D := by
      have := beq_iff_eq.mp e
      cases this; rfl
    rw [hb this]
  · show (if ((PySem.W.clsIn K D).isSome && PySem.W.typeIn K (.ref D) == some (.type "type")) = true then PySem.W.subIn K (.ref C) (.ref D) else none) = some b
    rw [cls_of_mro h2, h3]
    rw [if_pos (by decide +kernel)]
    exact h
end L2
namespace L2
open PySem PySem.Spec PyProof.Rows
def isInt : PyData → Bool | .int _ => true | .bool _ => true | _ => false
def isBool : PyData → Bool | .bool _ => true | _ => false
def isStr : PyData → Bool | .str _ => true | _ => false
def isLst : PyData → Bool | .list _ => true | _ => false
def isTup : PyData → Bool | .tuple _ => true | _ => false
def isDct : PyData → Bool | .dict _ => true | _ => false
section
variable {K : PySem.W.Frag} {H : Hp} {v : V} {d : PyData} {Q : VK}
theorem r_isi_int (h : Dv H v d) (q : Q (.bl (isInt d)) H) : rIsi K [v, .ty "int"] H Q := r_isiD h (by decide) (by cases d <;> exact q)
theorem r_isi_bool (h : Dv H v d) (q : Q (.bl (isBool d)) H) : rIsi K [v, .ty "bool"] H Q := r_isiD h (by decide) (by cases d <;> exact q)
theorem r_isi_str (h : Dv H v d) (q : Q (.bl (isStr d)) H) : rIsi K [v, .ty "str"] H Q := r_isiD h (by decide) (by cases d <;> exact q)
theorem r_isi_lst (h : Dv H v d) (q : Q (.bl (isLst d)) H) : rIsi K [v, .ty "list"] H Q := r_isiD h (by decide) (by cases d <;> exact q)
theorem r_isi_tup (h : Dv H v d) (q : Q (.bl (isTup d)) H) : rIsi K [v, .ty "tuple"] H Q := r_isiD h (by decide) (by cases d <;> exact q)
theorem r_isi_own {p C D dx : Addr} {fs : List (Str × V)} {b : Bool} (hp : H p = some (.ins C dx fs)) (cl : Cls K C) (t : TyCls K C) (k : PySem.W.kitOne K (.ref C) (.ref D) = some b) (q : Q (.bl b) H) : rIsi K [.ref p, .ref D] H Q :=
  ⟨_, _, _, _, _, rfl, .ref D, .ins hp cl t.ha t.hn t.ht t.hm, k, q⟩
def Ins (H : Hp) (v : V) (C : Addr) (fs : List (Str × V)) : Prop := ∃ p dx, v = .ref p ∧ H p = some (.ins C dx fs)
theorem Ins.keeps {H H' : Hp} {C : Addr} {fs : List (Str × V)} (s : Same H H') (h : Ins H v C fs) : Ins H' v C fs := by
  obtain ⟨p, dx, rfl, e⟩ := h; exact ⟨p, dx, rfl, s _ _ e⟩
theorem r_fldI {R : V → Prop} {C : Addr} {fs : List (Str × V)} {f : Str} {x : V} (hp : Ins H v C fs) (c : Cls K C) (n : NoAttr K C f) (l : fs.lookup f = some x) (h : R x) :
    ∃ a C dx fs x, v = .ref a ∧ H a = some (.ins C dx fs) ∧ Cls K C ∧ NoAttr K C f ∧ fs.lookup f = some x ∧ R x := by
  obtain ⟨p, dx, rfl, e⟩ := hp
  exact ⟨p, C, dx, fs, x, rfl, e, c, n, l, h⟩
theorem r_methI {C : Addr} {m : Str} {fs : List (Str × V)} {R : Prop} (hp : Ins H v C fs) (hl : fs.lookup m = none) (h : R) : ∃ a dx fs, v = .ref a ∧ H a = some (.ins C dx fs) ∧ fs.lookup m = none ∧ R := by
  obtain ⟨p, dx, rfl, e⟩ := hp
  exact ⟨p, dx, fs, rfl, e, hl, h⟩
theorem r_isiI {C D : Addr} {fs : List (Str × V)} {b : Bool} (hp : Ins H v C fs) (cl : Cls K C) (t : TyCls K C) (k : PySem.W.kitOne K (.ref C) (.ref D) = some b) (q : Q (.bl b) H) : rIsi K [v, .ref D] H Q := by
  obtain ⟨p, dx, rfl, e⟩ := hp
  exact r_isi_own e cl t k q
end
def look (f : Str) : List (Str × V) → Option V
  | [] => none
  | (g, v) :: r => if f = g then some v else look f r
theorem lookup_look (f : Str) : ∀ fs : List (Str × V), fs.lookup f = look f fs
  | [] => rfl
  | (g, v) :: r => by
    show (match f == g with | true => some v | false => r.lookup f) = if f = g then some v else look f r
    by_cases h : f = g
    · subst h; rw [if_pos rfl, beq_self_eq_true]
    · rw [if_neg h, beq_eq_false_iff_ne.mpr h]; exact lookup_look f r
end L2
namespace L2
open PySem PySem.Spec PyProof.Rows
section
variable {X : Cx}
def rIxK (K : PySem.W.Frag) : R2 := fun x y H Q => rIxA x y H Q ∨ rIxL K x y H Q
theorem ix_K : IxR X (rIxK X.K) := fun value slice pins s σ H x y v u Q I r1 r2 h => h.elim (ix_A value slice pins s σ H x y v u Q I r1 r2) (ix_list value slice pins s σ H x y v u Q I r1 r2)
def rLenK (K : PySem.W.Frag) : List V → Hp → VK → Prop := fun xs H Q => rLenA xs H Q ∨ ∃ p ys, xs = [.ref p] ∧ SqL K H p ys ∧ Q (.int ys.length) H
theorem call_lenK : CallR X (.builtin "len") (rLenK X.K) := fun pins s σ H xs us Q I r h => by
  rcases h with h | ⟨p, ys, e, hl, q⟩
  · exact call_lenA pins s σ H xs us Q I r h
  · exact call_len_seq pins s σ H xs us Q I r ⟨p, ys, e, .inl hl, q⟩
end
section
variable {σ : St} {H : Hp} {Q : VK} {D : Ends} {K : PySem.W.Frag}
theorem r_ixD {x : V} {ds : List PyData} {i : Int} {d : PyData} (hs : isSeq H x ds) (hi : atI ds i = some d) (g : GotD H d Q) : rIxK K x (.int i) H Q := .inl (r_ixT hs hi g)
theorem r_ixL {p : Addr} {xs : List V} {i : Int} {v : V} (hs : SqL K H p xs) (hi : atI xs i = some v) (g : Q v H) : rIxK K (.ref p) (.int i) H Q := .inr ⟨p, xs, i, v, rfl, rfl, hs, hi, g⟩
theorem r_lenK {v : V} {ds : List PyData} (hs : isSeq H v ds) (h : Q (.int (ds.length : Nat)) H) : rLenK K [v] H Q := .inl (r_lenD hs h)
theorem r_lenL {p : Addr} {xs : List V} (hs : SqL K H p xs) (h : Q (.int xs.length) H) : rLenK K [.ref p] H Q := .inr ⟨p, xs, rfl, hs, h⟩
theorem r_sfld {ta tv : TE} {f : Str} (h : tv σ H fun y H1 => ta σ H1 fun x H2 => ∃ a C dx fs, x = .ref a ∧ H2 a = some (.ins C dx fs) ∧ Cls K C ∧ NoAttr K C f ∧ fs.length < 1000 ∧ D.nx σ (upd H2 a (.ins C dx (putF f y fs)))) : sFld K ta tv f D σ H := h
theorem r_sfldv {p C dx : Addr} {fs fs' : List (Str × V)} {f : Str} {y : V} (hp : H p = some (.ins C dx fs)) (c : Cls K C) (n : NoAttr K C f) (hl : fs.length < 1000) (e : putF f y fs = fs') (h : D.nx σ (upd H p (.ins C dx fs'))) :
    ∃ a C dx fs, V.ref p = .ref a ∧ H a = some (.ins C dx fs) ∧ Cls K C ∧ NoAttr K C f ∧ fs.length < 1000 ∧ D.nx σ (upd H a (.ins C dx (putF f y fs))) := ⟨p, C, dx, fs, rfl, hp, c, n, hl, by rw [e]; exact h⟩
def spInit (C : Addr) (pre : List V → Prop) (fs : List V → List (Str × V)) : Sp := fun vs H Q _ => ∃ p dx args, vs = .ref p :: args ∧ pre args ∧ H p = some (.ins C dx []) ∧ Q .non (upd H p (.ins C dx (fs args)))
def rMin : List V → Hp → VK → Prop := fun xs H Q => ∃ i j, xs = [.int i, .int j] ∧ Q (.int (if j < i then j else i)) H
theorem r_is {R : Prop} (h : R) : V.non = V.non ∧ R := ⟨rfl, h⟩
end
def Bg (i : Int) : Prop := i.natAbs < 2 ^ 2000
theorem bg {i : Int} (h1 : -(10 ^ 200) < i) (h2 : i < 10 ^ 200) : i.natAbs < 2 ^ 2000 := by
  have : (10 : Nat) ^ 200 < 2 ^ 2000 := by decide +kernel
  have h3 : i.natAbs < 10 ^ 200 := by
    have e : ((10 : Nat) ^ 200 : Nat) = ((10 : Int) ^ 200).toNat := by decide +kernel
    rw [e]
    generalize (10 : Int) ^ 200 = m at h1 h2 ⊢
    omega
  exact Nat.lt_trans h3 this
theorem cmulB {i j : Int} (h1 : -(10 ^ 200) < i ∧ i < 10 ^ 200) (h2 : -(10 ^ 200) < j ∧ j < 10 ^ 200) : CMulB i j := ⟨bg h1.1 h1.2, bg h2.1 h2.2⟩
theorem cdivB {i j : Int} (h1 : 0 < j) (h2 : j < 10 ^ 200) : CDivB i j := ⟨h1, bg (Int.lt_trans (by decide) h1) h2⟩
def cell (ns : List Int) (k : Nat) : Int := ns.getD k 0
def spCell (K : PySem.W.Frag) : Sp := fun vs H Q _ => ∃ l ns k, vs = [.ref l, .int k] ∧ SqL K H l (ns.map V.int) ∧ 0 ≤ k ∧ Q (.int (cell ns k.toNat)) H
theorem u_cell {K : PySem.W.Frag} {H : Hp} {Q : VK} {E : XK} {l : Addr} {ns : List Int} {k : Int} (h : SqL K H l (ns.map V.int)) (hk : 0 ≤ k) (q : Q (.int (cell ns k.toNat)) H) : spCell K [.ref l, .int k] H Q E := ⟨l, ns, k, rfl, h, hk, q⟩
theorem cell_at {ns : List Int} {k : Int} (h0 : 0 ≤ k) (h : k < (ns.map V.int).length) : atI (ns.map V.int) k = some (.int (cell ns k.toNat)) := by
  obtain ⟨n, rfl⟩ := Int.eq_ofNat_of_zero_le h0
  refine atI_nat ?_
  have hn : n < ns.length := by simpa using h
  simp [cell, hn, List.getD_eq_getElem?_getD]
theorem cell_no {ns : List Int} {k : Int} (h0 : 0 ≤ k) (h : ¬ k < (ns.map V.int).length) : cell ns k.toNat = 0 := by
  have : ns.length ≤ k.toNat := by simp at h; omega
  simp [cell, List.getD_eq_getElem?_getD, this]
end L2
namespace L2
open PySem PySem.Spec PyProof.Rows
def withD (sp : Sp) (vs : List V) (H : Hp) (Q : VK) (E : XK) : Prop := ∃ ws, vs = ws ∧ sp ws H Q E
theorem withD_eq (sp : Sp) (vs : List V) (H : Hp) (Q : VK) (E : XK) : withD sp vs H Q E = sp vs H Q E := propext ⟨fun ⟨_, e, h⟩ => e ▸ h, fun h => ⟨vs, rfl, h⟩⟩
def tCallN (sp : Sp) (dvs : List V) (E : XK) (t : TA) : TE := fun σ H Q => t σ H fun vs H1 => withD sp (vs ++ dvs) H1 Q E
theorem tCallN_eq (sp : Sp) (dvs : List V) (E : XK) (t : TA) : tCallN sp dvs E t = tCall sp dvs E t := by
  funext σ H Q; unfold tCallN tCall; congr 1; funext vs H1; exact withD_eq _ _ _ _ _
def tMethN (C : Addr) (m : Str) (sp : Sp) (dvs : List V) (E : XK) (ta : TE) (t : TA) : TE := fun σ H Q => ta σ H fun x H1 => ∃ a dx fs, x = .ref a ∧ H1 a = some (.ins C dx fs) ∧ fs.lookup m = none ∧
  t σ H1 fun vs H2 => withD sp (x :: (vs ++ dvs)) H2 Q E
theorem tMethN_eq (C : Addr) (m : Str) (sp : Sp) (dvs : List V) (E : XK) (ta : TE) (t : TA) : tMethN C m sp dvs E ta t = tMeth C m sp dvs E ta t := by
  funext σ H Q; unfold tMethN tMeth; congr 1; funext x H1
  have : ∀ H2 : Hp, (fun vs H2 => withD sp (x :: (vs ++ dvs)) H2 Q E) = fun vs H2 => sp (x :: (vs ++ dvs)) H2 Q E := fun _ => by funext vs H2; exact withD_eq _ _ _ _ _
  rw [this H1]
def MakeP (C : Addr) (sp : Sp) (vs : List V) (H1 : Hp) (Q : VK) (E : XK) : Prop := ∃ ws, vs = ws ∧ ∀ x dx, H1 x = none → H1 dx = none → dx ≠ x →
  sp (.ref x :: ws) (upd (upd H1 dx (.own x)) x (.ins C dx [])) (fun v H2 => v = .non ∧ Q (.ref x) H2) E
def tMakeN (C : Addr) (sp : Sp) (dvs : List V) (E : XK) (t : TA) : TE := fun σ H Q => t σ H fun vs H1 => MakeP C sp (vs ++ dvs) H1 Q E
theorem tMakeN_eq (C : Addr) (sp : Sp) (dvs : List V) (E : XK) (t : TA) : tMakeN C sp dvs E t = tMake C sp dvs E t := by
  funext σ H Q; unfold tMakeN tMake MakeP; congr 1; funext vs H1
  exact propext ⟨fun ⟨_, e, h⟩ => by subst e; exact h, fun h => ⟨_, rfl, h⟩⟩
section
variable {X : Cx} {k : Nat} {f C : Addr} {ps : List Str} {sp : Sp} {dvs : List V} {x m : Str} {p pos apos : Pos} {e o : Expr} {es : List Expr} {ta : TE} {t : TA}
theorem pn_call (c : Cal X.prog X.w X.K X.mg X.base k f ps dvs sp) (hr : Room k X.A) (hg : Gl X x) (hm : X.mg x = some (.ref f)) (hk : PySem.W.keepIn X.K (.ref f) = true)
    (ha : PA X (e :: es) t) (hdb : (x == ("__debug__" : Str)) = false := by decide) (he : starEach (e :: es) X.env = (false, eval e X.env) :: starEach es X.env := by rfl) (hpl : (backTo pos (starEach es X.env)).any (·.1) = false := by rfl) :
    PE X (.Call (.Name x p) (e :: es) [] pos) (tCallN sp dvs E0 t) := by rw [tCallN_eq]; exact pc_call c hr hg hm hk ha hdb he hpl
theorem pn_meth {pl : Sem Bool} (he : PE X o ta) (c : Cls X.K C) (hm : Meth X.K C m f) (F : Cal X.prog X.w X.K X.mg X.base k f ps dvs sp) (hr : Room k X.A) (ha : PA X (e :: es) t)
    (hst : starEach (e :: es) X.env = (false, eval e X.env) :: starEach es X.env := by rfl) (hpl : (backTo pos (starEach es X.env)).any (·.1) = false := by rfl)
    (ht : eval (.Call (.Attribute o m apos) (e :: es) [] pos) X.env = (do
      let ov ← eval o X.env
      standAt apos.atName
      let (f, first) ← holding [ov] (getMethod ov m pl)
      callWith pos f first (backTo pos (starEach (e :: es) X.env)) (backToKw pos (keywordEach [] X.env))) := by rfl) :
    PE X (.Call (.Attribute o m apos) (e :: es) [] pos) (tMethN C m sp dvs E0 ta t) := by rw [tMethN_eq]; exact pc_meth he c hm F hr ha hst hpl ht
theorem pn_meth0 {pl : Sem Bool} (he : PE X o ta) (c : Cls X.K C) (hm : Meth X.K C m f) (F : Cal X.prog X.w X.K X.mg X.base k f ps dvs sp) (hr : Room k X.A)
    (ht : eval (.Call (.Attribute o m apos) [] [] pos) X.env = (do
      let ov ← eval o X.env
      standAt apos.atName
      let (f, first) ← holding [ov] (getMethod ov m pl)
      callWith pos f first (backTo pos (starEach [] X.env)) (backToKw pos (keywordEach [] X.env))) := by rfl) :
    PE X (.Call (.Attribute o m apos) [] [] pos) (tMethN C m sp dvs E0 ta tNil) := by rw [tMethN_eq]; exact pc_meth0 he c hm F hr ht
theorem pn_make (M : Mk X.K C f) (F : Cal X.prog X.w X.K X.mg X.base k f ps dvs sp) (hr : Room (k + 1) X.A) (hg : Gl X x) (hm : X.mg x = some (.ref C))
    (ha : PA X (e :: es) t) (hdb : (x == ("__debug__" : Str)) = false := by decide) (he : starEach (e :: es) X.env = (false, eval e X.env) :: starEach es X.env := by rfl) (hpl : (backTo pos (starEach es X.env)).any (·.1) = false := by rfl) :
    PE X (.Call (.Name x p) (e :: es) [] pos) (tMakeN C sp dvs E0 t) := by rw [tMakeN_eq]; exact pc_make M F hr hg hm ha hdb he hpl
end
section
variable {σ : St} {H : Hp} {Q : VK} {D : Ends} {K : PySem.W.Frag}
theorem r_callN {sp : Sp} {dvs : List V} {E : XK} {t : TA} (h : t σ H fun vs H1 => withD sp (vs ++ dvs) H1 Q E) : tCallN sp dvs E t σ H Q := h
theorem r_wd {sp : Sp} {vs ws : List V} {E : XK} (e : vs = ws) (h : sp ws H Q E) : withD sp vs H Q E := ⟨ws, e, h⟩
theorem r_methN {C : Addr} {m : Str} {sp : Sp} {dvs : List V} {E : XK} {ta : TE} {t : TA} (h : ta σ H fun x H1 => ∃ a dx fs, x = .ref a ∧ H1 a = some (.ins C dx fs) ∧ fs.lookup m = none ∧ t σ H1 fun vs H2 => withD sp (x :: (vs ++ dvs)) H2 Q E) : tMethN C m sp dvs E ta t σ H Q := h
theorem r_makeN {C : Addr} {sp : Sp} {dvs : List V} {E : XK} {t : TA} (h : t σ H fun vs H1 => MakeP C sp (vs ++ dvs) H1 Q E) : tMakeN C sp dvs E t σ H Q := h
theorem r_truB {b : Bool} {R : Bool → Prop} (h : R b) : ∃ k, TruV K (.bl b) H k ∧ R k := ⟨b, rfl, h⟩
end
end L2

namespace L2
open PySem PySem.Spec PyProof.Rows
theorem len64 {n : Nat} (h : Nat.ble n 64 = true) : n ≤ sizeLine := Nat.le_trans (Nat.le_of_ble_eq_true h) (by decide)
end L2

namespace L2
open PySem PySem.Spec PyProof.Rows
def RetD (H : Hp) (Q : VK) (d : PyData) : Prop := ∀ v H', Same H H' → Dv H' v d → Q v H'
end L2

namespace L2
open PySem PySem.Spec PyProof.Rows
section
variable {X : Cx} {st : Stmt} {rest : List Stmt}
def tCutM (t u : TS) : TS := tCut t u
theorem pss_cutM {t u : TS} (h1 : PS X st t) (h2 : PSs X rest u) : PSs X (st :: rest) (tCutM t u) := pss_cut h1 h2
end
section
variable {σ : St} {H : Hp} {Q : VK} {D : Ends} {K : PySem.W.Frag}
theorem r_cutM {t u : TS} (R : St → Hp → Prop) (h : t { D with nx := R } σ H) (k : ∀ σ' H', R σ' H' → u D σ' H') : tCutM t u D σ H := ⟨R, h, k⟩
def ForL (K : PySem.W.Frag) (x : V) (g : TG) (tb : TS) (D : Ends) (σ : St) (H1 : Hp) : Prop := ∃ a, x = .ref a ∧ (∃ xs, SqL K H1 a xs) ∧ ∃ W : Nat → Nat → St → Hp → Prop, (∃ m, W 0 m σ H1) ∧ ∀ i m σ H, W i m σ H →
      ((Itl K a).stop i H ∧ D.nx σ H) ∨ ((Itl K a).go i H ∧ ∃ N : St → Hp → Prop, (∀ σ' H', N σ' H' → ∃ m', m' < m ∧ W (i + 1) m' σ' H') ∧ ∀ x H', (Itl K a).yld i H x H' → g x σ H' fun σ2 H2 => tb { D with nx := N, ct := N, bk := D.nx } σ2 H2)
theorem r_for {tl : TE} {g : TG} {tb : TS} (h : tl σ H fun x H1 => ForL K x g tb D σ H1) : tFor (iList K tl) g tb D σ H := h
theorem forL {a : Addr} {xs : List V} {g : TG} {tb : TS} (hl : SqL K H a xs) (Pv : Nat → St → Hp → Prop) (h0 : Pv 0 σ H) (hk : ∀ i σ H, i ≤ xs.length → Pv i σ H → SqL K H a xs)
    (hs : ∀ i x σ H, xs[i]? = some x → Pv i σ H → g x σ H fun σ2 H2 => tb { D with nx := Pv (i + 1), ct := Pv (i + 1), bk := D.nx } σ2 H2) (hd : ∀ σ H, Pv xs.length σ H → D.nx σ H) : ForL K (.ref a) g tb D σ H :=
  ⟨a, rfl, ⟨xs, hl⟩, for_list Pv h0 hk hs hd⟩
def ForR (lo : Int) (n : Nat) (g : TG) (tb : TS) (D : Ends) (σ : St) (H1 : Hp) : Prop := ∃ W : Nat → Nat → St → Hp → Prop, (∃ m, W 0 m σ H1) ∧ ∀ i m σ H, W i m σ H →
      ((Itr lo n).stop i H ∧ D.nx σ H) ∨ ((Itr lo n).go i H ∧ ∃ N : St → Hp → Prop, (∀ σ' H', N σ' H' → ∃ m', m' < m ∧ W (i + 1) m' σ' H') ∧ ∀ x H', (Itr lo n).yld i H x H' → g x σ H' fun σ2 H2 => tb { D with nx := N, ct := N, bk := D.nx } σ2 H2)
end
end L2
namespace L2
open PySem PySem.Spec PyProof.Rows
end L2
namespace L2
open PySem PySem.Spec PyProof.Rows
section
variable {X : Cx}
def rMinP : List V → Hp → VK → Prop := fun xs H Q => ∃ i j, xs = [.int i, .int j] ∧ ∀ k, (k = i ∨ k = j) → k ≤ i → k ≤ j → Q (.int k) H
theorem call_minP (hc : X.calm = true) : CallR X (.builtin "min") rMinP := fun pins s σ H xs us Q I r ⟨i, j, e, h⟩ => call_min2 hc pins s σ H xs us Q I r ⟨i, j, e, by
  split
  · exact h _ (.inr rfl) (by omega) (by omega)
  · exact h _ (.inl rfl) (by omega) (by omega)⟩
def rMaxP : List V → Hp → VK → Prop := fun xs H Q => ∃ i j, xs = [.int i, .int j] ∧ ∀ k, (k = i ∨ k = j) → i ≤ k → j ≤ k → Q (.int k) H
theorem call_maxP (hc : X.calm = true) : CallR X (.builtin "max") rMaxP := fun pins s σ H xs us Q I r ⟨i, j, e, h⟩ => call_max2 hc pins s σ H xs us Q I r ⟨i, j, e, by
  split
  · exact h _ (.inr rfl) (by omega) (by omega)
  · exact h _ (.inl rfl) (by omega) (by omega)⟩
def rModP : R2 := fun x y H Q => ∃ i j, x = .int i ∧ y = .int j ∧ 0 < j ∧ (0 ≤ i % j → i % j < j → Q (.int (i % j)) H)
theorem op_modP : OpR X (binaryOp .Mod) rModP := fun pins s σ H x y v u Q I rx ry ⟨i, j, e1, e2, hj, h⟩ => op_mod pins s σ H x y v u Q I rx ry ⟨i, j, e1, e2, hj, h (Int.emod_nonneg _ (by omega)) (Int.emod_lt_of_pos _ hj)⟩
end
section
variable {σ : St} {H : Hp} {Q : VK} {D : Ends} {K : PySem.W.Frag}
theorem r_maxP {i j : Int} (h : ∀ k, (k = i ∨ k = j) → i ≤ k → j ≤ k → Q (.int k) H) : rMaxP [.int i, .int j] H Q := ⟨i, j, rfl, h⟩
theorem r_modP {i j : Int} (hj : 0 < j) (h : 0 ≤ i % j → i % j < j → Q (.int (i % j)) H) : rModP (.int i) (.int j) H Q := ⟨i, j, rfl, rfl, hj, h⟩
end
end L2
namespace L2
open PySem PySem.Spec PyProof.Rows
end L2
namespace L2
open PySem PySem.Spec PyProof.Rows
section
variable {σ : St} {H : Hp} {Q : VK} {D : Ends} {K : PySem.W.Frag}
def WTurn (Pv : Nat → St → Hp → Prop) (m : Nat) (tb : TS) (D : Ends) (σ : St) (H1 : Hp) : Prop := ∃ N : St → Hp → Prop, (∀ σ' H', N σ' H' → ∃ m', m' < m ∧ Pv m' σ' H') ∧ tb { D with nx := N, ct := N, bk := D.nx } σ H1
end
end L2
namespace L2
theorem len1000 {n : Nat} (h : Nat.blt n 1000 = true) : n < 1000 := by
  unfold Nat.blt at h
  exact Nat.le_of_ble_eq_true h
end L2

namespace L2
open PySem PySem.Spec PyProof.Rows
section
variable {X : Cx}
def rIsB (f : Bool → Bool) : R2 := fun x y H Q => ∃ b c, x = .bl b ∧ y = .bl c ∧ Q (.bl (f (b == c))) H
def rStrI : List V → Hp → VK → Prop := fun xs H Q => ∃ i, xs = [.int i] ∧ i.natAbs.log2 < 1920 ∧ Q (.str (toString i)) H
end
section
variable {σ : St} {H : Hp} {Q : VK} {D : Ends} {K : PySem.W.Frag}
end
end L2
namespace L2
open PySem PySem.Spec PyProof.Rows
theorem r_powE {H : Hp} {Q : VK} {i j p : Int} (c : CPow i j) (e : i ^ j.toNat = p) (h : Q (.int p) H) : rI CPow (fun i j => .int (i ^ j.toNat)) (.int i) (.int j) H Q := ⟨i, j, rfl, rfl, c, by show Q (.int (i ^ j.toNat)) H; rw [e]; exact h⟩
end L2
namespace L2
open PySem PySem.Spec PyProof.Rows
section
variable {X : Cx} {e : Expr}
def tOrE (t u : TE) : TE := fun σ H Q => t σ H Q ∨ u σ H Q
end
section
variable {σ : St} {H : Hp} {Q : VK} {D : Ends} {K : PySem.W.Frag}
def Unp2 (K : PySem.W.Frag) (x : V) (i j : Nat) (D : Ends) (σ : St) (H : Hp) : Prop := gTup K 2 (gCons (gName i) (gCons (gName j) gNil)) x σ H D.nx
end
end L2
namespace L2
end L2

namespace L2
open PySem PySem.Spec PyProof.Rows PySem.W
structure Swo (lt : Nat → Nat → Bool) : Prop where
  irr : ∀ a, lt a a = false
  asy : ∀ a b, lt a b = true → lt b a = false
  ntr : ∀ a b c, lt a b = false → lt b c = false → lt a c = false
section
variable {lt : Nat → Nat → Bool} {n : Nat} {S : Shared → Prop} {cmp : Nat → Nat → (Bool → Shared → Prop) → Shared → Prop}
def Up (lt : Nat → Nat → Bool) (p : Array Nat) (k : Nat) : Prop := ∀ i j, i < j → j < k → lt (p.getD j 0) (p.getD i 0) = false
def Down (lt : Nat → Nat → Bool) (p : Array Nat) (k : Nat) : Prop := ∀ i j, i < j → j < k → lt (p.getD i 0) (p.getD j 0) = false
def Alike (lt : Nat → Nat → Bool) (p : Array Nat) (a b : Nat) : Prop := ∀ i j, a ≤ i → i < b → a ≤ j → j < b → lt (p.getD i 0) (p.getD j 0) = false
structure Ix (n : Nat) (p : Array Nat) : Prop where
  sz : p.size = n
  pm : p.toList.Perm (List.range n)
theorem Ix.low {p : Array Nat} (h : Ix n p) {i : Nat} (hi : i < n) : p.getD i 0 < n := by
  have hi' : i < p.size := by rw [h.sz]; exact hi
  have e : p.getD i 0 = p[i] := by simp [Array.getD, hi']
  rw [e]
  have : p[i] ∈ p.toList := by simp
  exact List.mem_range.mp (h.pm.mem_iff.mp this)
theorem Ix.perm {p q : Array Nat} (h : Ix n p) (hq : q.Perm p) : Ix n q := ⟨hq.size_eq.trans h.sz, (Array.perm_iff_toList_perm.mp hq).trans h.pm⟩
theorem getD_rev {p : Array Nat} {i j : Nat} (hj : j ≤ p.size) (k : Nat) : (kas_rev p i j).getD k 0 = if i ≤ k ∧ k < j then p.getD (i + j - 1 - k) 0 else p.getD k 0 := by
  unfold kas_rev
  rw [Array.getD_eq_getD_getElem?, getElem?_mirror_all hj k]
  by_cases h : i ≤ k ∧ k < j
  · rw [if_pos h, if_pos h, Array.getD_eq_getD_getElem?]
  · rw [if_neg h, if_neg h, Array.getD_eq_getD_getElem?]
theorem ix_rev {p : Array Nat} (h : Ix n p) (i j : Nat) : Ix n (kas_rev p i j) := h.perm (mirror_perm _ _ _ _)
theorem getD_bub {p : Array Nat} {k d : Nat} (hk : k < p.size) (hd : d ≤ k) (i : Nat) : (bubble p k d).getD i 0 = if i = k - d then p.getD k 0 else if k - d < i ∧ i ≤ k then p.getD (i - 1) 0 else p.getD i 0 := by
  rw [Array.getD_eq_getD_getElem?, getElem?_bubble hk d hd i]
  by_cases h : i = k - d
  · rw [if_pos h, if_pos h, Array.getD_eq_getD_getElem?]
  · rw [if_neg h, if_neg h]
    by_cases h2 : k - d < i ∧ i ≤ k
    · rw [if_pos h2, if_pos h2, Array.getD_eq_getD_getElem?]
    · rw [if_neg h2, if_neg h2, Array.getD_eq_getD_getElem?]
def Asks (n : Nat) (lt : Nat → Nat → Bool) (S : Shared → Prop) (cmp : Nat → Nat → (Bool → Shared → Prop) → Shared → Prop) : Prop :=
  ∀ i j C s, i < n → j < n → S s → (∀ s', S s' → C (lt i j) s') → cmp i j C s
variable (w : Swo lt) (ha : Asks n lt S cmp)
include w ha
theorem asc_ok {p : Array Nat} (hp : Ix n p) {Q : Nat → Shared → Prop} : ∀ (f k : Nat), 1 ≤ k → k + f ≤ n → Up lt p k → (∀ m s, S s → k ≤ m → m ≤ k + f → Up lt p m → (m = k + f ∨ (m < k + f ∧ lt (p.getD m 0) (p.getD (m - 1) 0) = true)) → Q m s) → ∀ s, S s → (kas_asc p f k).kasWp cmp Q s
  | 0, k, _, _, hu, hq, s, hs => hq k s hs (Nat.le_refl _) (Nat.le_refl _) hu (.inl rfl)
  | f + 1, k, h1, hf, hu, hq, s, hs => by
    refine ha _ _ _ _ (hp.low (by omega)) (hp.low (by omega)) hs fun s' hs' => ?_
    cases e : lt (p.getD k 0) (p.getD (k - 1) 0) with
    | true => exact hq k s' hs' (Nat.le_refl _) (by omega) hu (.inr ⟨by omega, e⟩)
    | false =>
      refine asc_ok hp f (k + 1) (by omega) (by omega) (fun i j hij hj => ?_) (fun m s hs a b c d => hq m s hs (by omega) (by omega) c (by rcases d with d | d; exact .inl (by omega); exact .inr ⟨by omega, d.2⟩)) s' hs'
      by_cases hjk : j < k
      · exact hu i j hij hjk
      · have : j = k := by omega
        subst this
        by_cases hi : i = j - 1
        · rw [hi]; exact e
        · exact w.ntr _ _ _ e (hu i (j - 1) (by omega) (by omega))
theorem desc_ok {Q : Array Nat × Nat × Nat → Shared → Prop} : ∀ (f : Nat) (p : Array Nat) (k q : Nat), Ix n p → k + f ≤ n → q + 1 ≤ k → Down lt p k → Alike lt p (k - (q + 1)) k →
    (∀ p' k' q' s, S s → Ix n p' → k ≤ k' → k' ≤ k + f → q' + 1 ≤ k' → Down lt p' k' → Alike lt p' (k' - (q' + 1)) k' → Q (p', k', q') s) → ∀ s, S s → (kas_desc f p k q).kasWp cmp Q s
  | 0, p, k, q, hp, _, h1, hd, hl, hq, s, hs => hq p k q s hs hp (Nat.le_refl _) (Nat.le_refl _) h1 hd hl
  | f + 1, p, k, q, hp, hf, h1, hd, hl, hq, s, hs => by
    refine ha _ _ _ _ (hp.low (by omega)) (hp.low (by omega)) hs fun s' hs' => ?_
    cases e : lt (p.getD k 0) (p.getD (k - 1) 0) with
    | true =>
      have hbelow : ∀ i, i < k → lt (p.getD i 0) (p.getD k 0) = false := fun i hi => by
        by_cases h : i = k - 1
        · rw [h]; exact w.asy _ _ e
        · exact w.ntr _ _ _ (hd i (k - 1) (by omega) (by omega)) (w.asy _ _ e)
      by_cases h0 : q > 0
      · simp only [if_true, if_pos h0]
        have hk : k ≤ p.size := by rw [hp.sz]; omega
        refine desc_ok f _ (k + 1) 0 (ix_rev hp _ _) (by omega) (by omega) (fun i j hij hj => ?_) (fun i j a b c d => ?_) (fun p' k' q' s hs a b c d e f => hq p' k' q' s hs a (by omega) (by omega) d e f) s' hs'
        · rw [getD_rev hk, getD_rev hk]
          by_cases hjk : j = k
          · subst hjk
            rw [if_neg (show ¬ (j - (q + 1) ≤ j ∧ j < j) by omega)]
            by_cases hi : j - (q + 1) ≤ i ∧ i < j
            · rw [if_pos hi]; exact hbelow _ (by omega)
            · rw [if_neg hi]; exact hbelow _ hij
          · by_cases hi : k - (q + 1) ≤ i ∧ i < k
            · rw [if_pos hi, if_pos (show k - (q + 1) ≤ j ∧ j < k by omega)]
              exact hl _ _ (by omega) (by omega) (by omega) (by omega)
            · rw [if_neg hi]
              by_cases hj2 : k - (q + 1) ≤ j ∧ j < k
              · rw [if_pos hj2]; exact hd _ _ (by omega) (by omega)
              · rw [if_neg hj2]; exact hd _ _ hij (by omega)
        · have : i = k := by omega
          have : j = k := by omega
          subst_vars
          exact w.irr _
      · simp only [if_true, if_neg h0]
        refine desc_ok f _ (k + 1) 0 hp (by omega) (by omega) (fun i j hij hj => ?_) (fun i j a b c d => ?_) (fun p' k' q' s hs a b c d e f => hq p' k' q' s hs a (by omega) (by omega) d e f) s' hs'
        · by_cases hjk : j = k
          · subst hjk; exact hbelow _ hij
          · exact hd _ _ hij (by omega)
        · have : i = k := by omega
          have : j = k := by omega
          subst_vars
          exact w.irr _
    | false =>
      simp only [Bool.false_eq_true, if_false]
      refine ha _ _ _ _ (hp.low (by omega)) (hp.low (by omega)) hs' fun s2 hs2 => ?_
      cases e2 : lt (p.getD (k - 1) 0) (p.getD k 0) with
      | true => simp only [if_true]; exact hq p k q s2 hs2 hp (Nat.le_refl _) (by omega) h1 hd hl
      | false =>
        simp only [Bool.false_eq_true, if_false]
        refine desc_ok f _ (k + 1) (q + 1) hp (by omega) (by omega) (fun i j hij hj => ?_) (fun i j a b c d => ?_) (fun p' k' q' s hs a b c d e f => hq p' k' q' s hs a (by omega) (by omega) d e f) s2 hs2
        · by_cases hjk : j = k
          · subst hjk
            by_cases h : i = j - 1
            · rw [h]; exact e2
            · exact w.ntr _ _ _ (hd i (j - 1) (by omega) (by omega)) e2
          · exact hd _ _ hij (by omega)
        · by_cases hi : i = k
          · by_cases hj : j = k
            · rw [hi, hj]; exact w.irr _
            · rw [hi]; exact w.ntr _ _ _ e (hl _ _ (by omega) (by omega) (by omega) (by omega))
          · by_cases hj : j = k
            · rw [hj]; exact w.ntr _ _ _ (hl _ _ (by omega) (by omega) (by omega) (by omega)) e2
            · exact hl _ _ (by omega) (by omega) (by omega) (by omega)
theorem tail3_ok {Q : Nat × Array Nat → Shared → Prop} {p : Array Nat} {k : Nat} (hp : Ix n p) (h1 : 1 ≤ k) (hk : k ≤ n) (hd : Down lt p k) (hq : ∀ m p' s, S s → Ix n p' → 1 ≤ m → m ≤ n → Up lt p' m → Q (m, p') s) (s : Shared) (hs : S s) : (kas_tail3 k n p).kasWp cmp Q s := by
  unfold kas_tail3
  rw [KasT.kasWp_bind]
  have hk' : k ≤ p.size := by rw [hp.sz]; exact hk
  refine asc_ok w ha (ix_rev hp 0 k) (n - k) k h1 (by omega) (fun i j hij hj => ?_) (fun m s hs a b c _ => hq m _ s hs (ix_rev hp _ _) (by omega) (by omega) c) s hs
  rw [getD_rev hk', getD_rev hk', if_pos (by omega), if_pos (by omega)]
  exact hd _ _ (by omega) (by omega)
theorem descPart_ok {Q : Nat × Array Nat → Shared → Prop} {p : Array Nat} {k : Nat} (hp : Ix n p) (h1 : 1 ≤ k) (hk : k + 1 ≤ n) (hd : Down lt p (k + 1)) (hq : ∀ m p' s, S s → Ix n p' → 1 ≤ m → m ≤ n → Up lt p' m → Q (m, p') s) (s : Shared) (hs : S s) : (kas_descPart k n p).kasWp cmp Q s := by
  unfold kas_descPart
  rw [KasT.kasWp_bind]
  refine desc_ok w ha _ p (k + 1) 0 hp (by omega) (by omega) hd (fun i j a b c d => ?_) (fun p' k' q' s hs hp' a b c hd' hl => ?_) s hs
  · have : i = k := by omega
    have : j = k := by omega
    subst_vars
    exact w.irr _
  · by_cases h0 : q' > 0
    · simp only [if_pos h0]
      have hk' : k' ≤ p'.size := by rw [hp'.sz]; omega
      refine tail3_ok w ha (ix_rev hp' _ _) (by omega) (by omega) (fun i j hij hj => ?_) hq s hs
      rw [getD_rev hk', getD_rev hk']
      by_cases hi : k' - (q' + 1) ≤ i ∧ i < k'
      · rw [if_pos hi, if_pos (by omega)]; exact hl _ _ (by omega) (by omega) (by omega) (by omega)
      · rw [if_neg hi]
        by_cases hj2 : k' - (q' + 1) ≤ j ∧ j < k'
        · rw [if_pos hj2]; exact hd' _ _ (by omega) (by omega)
        · rw [if_neg hj2]; exact hd' _ _ hij (by omega)
    · simp only [if_neg h0]
      exact tail3_ok w ha hp' (by omega) (by omega) hd' hq s hs
theorem count_ok {Q : Nat × Array Nat → Shared → Prop} {p : Array Nat} (hn : 1 ≤ n) (hp : Ix n p) (hq : ∀ m p' s, S s → Ix n p' → 1 ≤ m → m ≤ n → Up lt p' m → Q (m, p') s) (s : Shared) (hs : S s) : (kas_count n p).kasWp cmp Q s := by
  unfold kas_count
  rw [KasT.kasWp_bind]
  refine asc_ok w ha hp (n - 1) 1 (Nat.le_refl _) (by omega) (fun i j _ _ => by omega) (fun m s hs a b hu hc => ?_) s hs
  by_cases hm : (m == n) = true
  · simp only [if_pos hm]; exact hq m p s hs hp a (by have := beq_iff_eq.mp hm; omega) hu
  · simp only [if_neg hm]
    have hmn : m ≠ n := fun z => hm (beq_iff_eq.mpr z)
    have hlt : m < n := by omega
    have hc' : lt (p.getD m 0) (p.getD (m - 1) 0) = true := by
      rcases hc with hc | hc
      · omega
      · exact hc.2
    by_cases h1 : m > 1
    · simp only [if_pos h1]
      refine ha _ _ _ _ (hp.low (by omega)) (hp.low (by omega)) hs fun s2 hs2 => ?_
      cases e : lt (p.getD 0 0) (p.getD (m - 1) 0) with
      | true => simp only [if_true]; exact hq m p s2 hs2 hp a (by omega) hu
      | false =>
        simp only [Bool.false_eq_true, if_false]
        have hk : m ≤ p.size := by rw [hp.sz]; omega
        -- all of the first m are alike
        have al : ∀ i j, i < m → j < m → lt (p.getD i 0) (p.getD j 0) = false := fun i j hi hj => by
          have h1 : lt (p.getD i 0) (p.getD 0 0) = false := by
            by_cases h : i = 0
            · rw [h]; exact w.irr _
            · exact hu 0 i (by omega) hi
          have h2 : lt (p.getD i 0) (p.getD (m - 1) 0) = false := w.ntr _ _ _ h1 e
          by_cases h : j = m - 1
          · rw [h]; exact h2
          · exact w.ntr _ _ _ h2 (hu j (m - 1) (by omega) (by omega))
        refine descPart_ok w ha (ix_rev hp _ _) a (by omega) (fun i j hij hj => ?_) hq s2 hs2
        rw [getD_rev hk, getD_rev hk, if_pos (by omega)]
        by_cases hjm : j < m
        · rw [if_pos (by omega)]; exact al _ _ (by omega) (by omega)
        · rw [if_neg (by omega)]
          have : j = m := by omega
          subst this
          exact w.ntr _ _ _ (al _ (j - 1) (by omega) (by omega)) (w.asy _ _ hc')
    · simp only [if_neg h1]
      refine descPart_ok w ha hp a (by omega) (fun i j hij hj => ?_) hq s hs
      have h1 : m = 1 := by omega
      have hi : i = m - 1 := by omega
      have hj : j = m := by omega
      rw [hi, hj]
      exact w.asy _ _ hc'
theorem place_ok {p : Array Nat} {k : Nat} (hp : Ix n p) (hk : k < n) (hu : Up lt p k) {Q : Nat → Shared → Prop} : ∀ (f l r : Nat), l ≤ r → r ≤ k → r - l ≤ f → (∀ i, i < l → lt (p.getD k 0) (p.getD i 0) = false) → (∀ i, r ≤ i → i < k → lt (p.getD k 0) (p.getD i 0) = true) →
    (∀ l s, S s → l ≤ k → (∀ i, i < l → lt (p.getD k 0) (p.getD i 0) = false) → (∀ i, l ≤ i → i < k → lt (p.getD k 0) (p.getD i 0) = true) → Q l s) → ∀ s, S s → (kas_place p k f l r).kasWp cmp Q s
  | 0, l, r, hlr, hr, hf, h1, h2, hq, s, hs => hq l s hs (by omega) h1 (fun i a b => h2 i (by omega) b)
  | f + 1, l, r, hlr, hr, hf, h1, h2, hq, s, hs => by
    unfold kas_place
    by_cases h : l ≥ r
    · rw [if_pos h]; exact hq l s hs (by omega) h1 (fun i a b => h2 i (by omega) b)
    · rw [if_neg h]
      refine ha _ _ _ _ (hp.low hk) (hp.low (by omega)) hs fun s' hs' => ?_
      cases e : lt (p.getD k 0) (p.getD ((l + r) / 2) 0) with
      | true =>
        simp only [if_true]
        refine place_ok hp hk hu f l ((l + r) / 2) (by omega) (by omega) (by omega) h1 (fun i a b => ?_) hq s' hs'
        by_cases hi : i = (l + r) / 2
        · rw [hi]; exact e
        · cases e3 : lt (p.getD k 0) (p.getD i 0) with
          | true => rfl
          | false => rw [w.ntr _ _ _ e3 (hu ((l + r) / 2) i (by omega) b)] at e; exact e
      | false =>
        simp only [Bool.false_eq_true, if_false]
        refine place_ok hp hk hu f ((l + r) / 2 + 1) r (by omega) (by omega) (by omega) (fun i a => ?_) h2 hq s' hs'
        by_cases hi : i = (l + r) / 2
        · rw [hi]; exact e
        · exact w.ntr _ _ _ e (hu i ((l + r) / 2) (by omega) (by omega))
theorem bin_ok {Q : Array Nat → Shared → Prop} : ∀ (f : Nat) (p : Array Nat) (k : Nat), Ix n p → k + f = n → Up lt p k → (∀ p' s, S s → Ix n p' → Up lt p' n → Q p' s) → ∀ s, S s → (kas_bin f p k).kasWp cmp Q s
  | 0, p, k, hp, hf, hu, hq, s, hs => by
    have : k = n := by omega
    subst this
    exact hq p s hs hp hu
  | f + 1, p, k, hp, hf, hu, hq, s, hs => by
    unfold kas_bin
    rw [KasT.kasWp_bind]
    refine place_ok w ha hp (by omega) hu k 0 k (by omega) (Nat.le_refl _) (by omega) (fun i h => by omega) (fun i a b => by omega) (fun l s hs hl h1 h2 => ?_) s hs
    have hk : k < p.size := by rw [hp.sz]; omega
    refine bin_ok f _ (k + 1) (hp.perm (bubble_perm _ _ _)) (by omega) (fun i j hij hj => ?_) hq s hs
    rw [getD_bub hk (by omega), getD_bub hk (by omega)]
    have el : k - (k - l) = l := by omega
    rw [el]
    by_cases hjl : j = l
    · rw [if_pos hjl, if_neg (by omega), if_neg (by omega)]; exact h1 i (by omega)
    · rw [if_neg hjl]
      by_cases hil : i = l
      · rw [if_pos hil, if_pos (by omega)]; exact w.asy _ _ (h2 _ (by omega) (by omega))
      · rw [if_neg hil]
        by_cases hi2 : l < i ∧ i ≤ k
        · rw [if_pos hi2, if_pos (by omega)]; exact hu _ _ (by omega) (by omega)
        · rw [if_neg hi2]
          by_cases hj2 : l < j ∧ j ≤ k
          · rw [if_pos hj2]; exact hu _ _ (by omega) (by omega)
          · rw [if_neg hj2]; exact hu _ _ hij (by omega)
theorem sort_ok {Q : Array Nat → Shared → Prop} (hn : 1 ≤ n) (hq : ∀ p' s, S s → Ix n p' → Up lt p' n → Q p' s) (s : Shared) (hs : S s) : (kas_sort n).kasWp cmp Q s := by
  unfold kas_sort
  rw [KasT.kasWp_bind]
  refine count_ok w ha hn ⟨by simp, by simp⟩ (fun m p' s hs hp h1 hm hu => ?_) s hs
  by_cases h : m < n
  · simp only [if_pos h]
    have : max m 1 = m := by omega
    rw [this]
    exact bin_ok w ha _ p' m hp (by omega) hu hq s hs
  · simp only [if_neg h]
    have : m = n := by omega
    subst this
    exact hq p' s hs hp hu
end
end L2

namespace L2
open PySem PySem.Spec PyProof.Rows PySem.W
section
variable {X : Cx} {pins : List (Addr × Obj)} {σ : St} {H H' : Hp} {s : Shared} {a : Addr}
theorem Inv.upd1 {f : Obj → Obj} (I : Inv X pins σ H s) (fa : FpOk X pins H a) : Inv X pins σ H { s with heap := s.heap.update a f } :=
  I.turned (t' := s.toks) (fun b o hb e => by rw [Heap.get?_update_ne _ _ _ _ hb]; exact e) fa.1 fa.2.1 fa.2.2.2.1 fa.2.2.2.2.1 fa.2.2.2.2.2
theorem Inv.push1 {o : Obj} (I : Inv X pins σ H s) : Inv X pins σ H { s with heap := s.heap.push o } := I.kept (t' := s.toks) fun b u e => Heap.get?_push_of_some _ e
theorem Inv.track {acc : List V} {its : List Value} {n : Nat} (I : Inv X pins σ H s) (fa : FpOk X pins H a) (hn0 : X.s₀.heap.objs.size ≤ a) (hl : acc.length ≤ sizeLine) (r : Vals acc its) (hd : s.heap.get? a = some { cls := .type "list", data := .seq its.toArray n }) :
    Inv X pins σ (upd H a (.lst acc)) s := by
  have ne : ∀ b u, H b = some u → b ≠ a := fun b u e => ne_of_none e fa.1
  have old : ∀ b o, X.s₀.heap.get? b = some o → b ≠ a := fun b o e => Nat.ne_of_lt (Nat.lt_of_lt_of_le (Heap.lt_size e) hn0)
  have U := I.base
  refine ⟨I.ok, I.os, I.bare, ⟨U.keep, U.slot, fun b o e n hx => ?_, U.there, fun b xs e => ?_, fun b o u e => ?_, fun b ps e => ?_⟩, I.loc, I.cell, ?_, fun x c e => ?_, fun p hp => ?_, fun b u e => ?_, I.len⟩
  · rw [upd_ne (old b o e)]; exact U.free b o e n hx
  · rw [upd_ne (ne b _ (U.tups b xs e))]; exact U.tups b xs e
  · rw [upd_ne (ne b _ (U.frzs b o u e))]; exact U.frzs b o u e
  · obtain ⟨more, q⟩ := U.tbls b ps e
    exact ⟨more, by rw [upd_ne (ne b _ q)]; exact q⟩
  · rw [upd_ne (Ne.symm fa.2.1)]; exact I.free
  · rw [upd_ne (fa.2.2.2.2.1 x c e)]; exact I.freeC x c e
  · obtain ⟨e1, e2, e3⟩ := I.pin p hp
    exact ⟨e1, by rw [upd_ne (fa.2.2.2.2.2 p hp)]; exact e2, e3⟩
  · by_cases hb : b = a
    · subst hb
      rw [upd_same] at e
      cases e
      exact ⟨hl, its, n, r, hd⟩
    · rw [upd_ne hb] at e
      exact (I.hok b u e).stay (fun c v _ q => q) (fun c q => by rw [upd_ne (ne c _ q)]; exact q) fun c xs q => by rw [upd_ne (ne c _ q)]; exact q
end
def ltS (a b : Str) : Bool := decide (a.cps.toList < b.cps.toList)
def ltIS (a b : Int × Str) : Bool := decide (a.1 < b.1) || (decide (a.1 = b.1) && ltS a.2 b.2)
theorem ltS_irr (a : Str) : ltS a a = false := decide_eq_false (List.lt_irrefl _)
theorem ltS_asy {a b : Str} (h : ltS a b = true) : ltS b a = false := decide_eq_false (List.lt_asymm (of_decide_eq_true h))
theorem ltS_ntr {a b c : Str} (h : ltS a b = false) (h2 : ltS b c = false) : ltS a c = false := by
  unfold ltS at *
  have h1' : b.cps.toList ≤ a.cps.toList := List.not_lt.mp (of_decide_eq_false h)
  have h2' : c.cps.toList ≤ b.cps.toList := List.not_lt.mp (of_decide_eq_false h2)
  exact decide_eq_false (List.not_lt.mpr (List.le_trans h2' h1'))
theorem str_ext {a b : Str} (h : a.cps.toList = b.cps.toList) : a = b := by
  cases a; cases b
  simp only at h
  rw [Array.toList_inj.mp h]
theorem ltS_tot {a b : Str} (h : ltS a b = false) (h2 : ltS b a = false) : a = b := by
  unfold ltS at *
  have h1' : b.cps.toList ≤ a.cps.toList := List.not_lt.mp (of_decide_eq_false h)
  have h2' : a.cps.toList ≤ b.cps.toList := List.not_lt.mp (of_decide_eq_false h2)
  exact str_ext (List.le_antisymm h2' h1')
theorem ltIS_iff {a b : Int × Str} : ltIS a b = true ↔ a.1 < b.1 ∨ (a.1 = b.1 ∧ ltS a.2 b.2 = true) := by
  unfold ltIS; simp
theorem ltIS_niff {a b : Int × Str} : ltIS a b = false ↔ ¬ a.1 < b.1 ∧ (a.1 = b.1 → ltS a.2 b.2 = false) := by
  unfold ltIS; simp
theorem ltIS_irr (a : Int × Str) : ltIS a a = false := ltIS_niff.mpr ⟨by omega, fun _ => ltS_irr _⟩
theorem ltIS_asy {a b : Int × Str} (h : ltIS a b = true) : ltIS b a = false := by
  rcases ltIS_iff.mp h with h | ⟨h, h2⟩
  · exact ltIS_niff.mpr ⟨by omega, fun _ => by omega⟩
  · exact ltIS_niff.mpr ⟨by omega, fun _ => ltS_asy h2⟩
theorem ltIS_ntr {a b c : Int × Str} (h : ltIS a b = false) (h2 : ltIS b c = false) : ltIS a c = false := by
  obtain ⟨h1, h3⟩ := ltIS_niff.mp h
  obtain ⟨h4, h5⟩ := ltIS_niff.mp h2
  refine ltIS_niff.mpr ⟨by omega, fun e => ?_⟩
  exact ltS_ntr (h3 (by omega)) (h5 (by omega))
theorem ltIS_tot {a b : Int × Str} (h : ltIS a b = false) (h2 : ltIS b a = false) : a = b := by
  obtain ⟨h1, h3⟩ := ltIS_niff.mp h
  obtain ⟨h4, h5⟩ := ltIS_niff.mp h2
  have e : a.1 = b.1 := by omega
  exact Prod.ext e (ltS_tot (h3 e) (h5 e.symm))
section
variable {prog : Program} {w : World} {A : Around} {E : Value → Shared → Prop} {s : Shared}
theorem lt_pair {x y : Addr} {i j : Int} {t u t2 u2 : Tok} {c d : Str} {Q : Bool → Shared → Prop} (hx : IsTup s.heap x #[.int i t, .str c t2]) (hy : IsTup s.heap y #[.int j u, .str d u2]) (h : Q (ltIS (i, c) (j, d)) s) :
    wpAny (model prog w) A (keyLt' (tuples' true) (.ref x) (.ref y)) Q E s := by
  obtain ⟨ox, hox, cx, nx, dx⟩ := hx
  obtain ⟨oy, hoy, cy, ny, dy⟩ := hy
  refine kat_lt hox dx hoy dy ?_
  refine kat_cons (wpAny_eqBool_int ?_)
  by_cases e : i = j
  · rw [show (i == j) = true from beq_iff_eq.mpr e]
    refine kat_yes (kat_cons (wpAny_eqBool_str ?_))
    by_cases e2 : c = d
    · rw [decide_eq_true e2]
      refine kat_yes (kat_nil ?_)
      have : ltIS (i, c) (j, d) = false := by rw [e, e2]; exact ltIS_irr _
      rw [this] at h
      exact h
    · rw [decide_eq_false e2]
      refine kat_no (kat_one _ _ (lt_str ?_))
      have : ltIS (i, c) (j, d) = ltS c d := by unfold ltIS; simp [e]
      rw [this] at h
      exact h
  · rw [show (i == j) = false from beq_eq_false_iff_ne.mpr e]
    refine kat_no (oneLt_int ?_)
    have : ltIS (i, c) (j, d) = decide (i < j) := by unfold ltIS; simp [e]
    rw [this] at h
    exact h
end
end L2

namespace L2
open PySem PySem.Spec PyProof.Rows PySem.W
def KeyRun (sp : Sp) (kf : V → Int × Str) (H : Hp) (xs : List V) : Prop := ∀ v ∈ xs, ∀ H', Same H H' → sp [v] H' (fun y H2 => Same H' H2 ∧ Dv H2 y (.tuple [.int (kf v).1, .str (kf v).2])) E0
def InOrder {α : Type} (lt : α → α → Bool) (kf : V → α) (ys xs : List V) : Prop := ys.Perm xs ∧ ys.Pairwise fun x y => lt (kf y) (kf x) = false
section
variable {X : Cx} {pins : List (Addr × Obj)} {σ : St} {H : Hp} {s : Shared} {k : Nat} {f : Addr} {fd : FuncData} {ps : List Str} {sp : Sp} {kf : V → Int × Str} {A : Around}
structure Keys (X : Cx) (pins : List (Addr × Obj)) (σ : St) (H : Hp) (kf : V → Int × Str) (a kS : Addr) (oa : Obj) (xs : List V) (s' : Shared) : Prop where
  mk ::
  ex : ∃ H' us e ys, Inv X pins σ H' s' ∧ Same H H' ∧ H' a = none ∧ H' kS = none ∧ s'.heap.get? a = some oa ∧ s'.heap.get? kS = some (seqObj "list" (List.toArray us) e) ∧ Vals ys us ∧ Dvs H' ys (xs.map fun v => .tuple [.int (kf v).1, .str (kf v).2])
theorem order_of {xs : List V} {p : Array Nat} {α : Type} {lt : α → α → Bool} {kf : V → α} (hp : Ix xs.length p) (hu : Up (fun i j => lt (kf (xs.getD i .non)) (kf (xs.getD j .non))) p xs.length) : InOrder lt kf (p.toList.map fun i => xs.getD i .non) xs := by
  refine ⟨?_, ?_⟩
  · have h := hp.pm.map fun i => xs.getD i .non
    have e : (List.range xs.length).map (fun i => xs.getD i .non) = xs := by
      refine List.ext_getElem? fun i => ?_
      rw [List.getElem?_map]
      by_cases hi : i < xs.length
      · rw [List.getElem?_range hi]; simp [hi]
      · rw [List.getElem?_eq_none (by simpa using hi), List.getElem?_eq_none (by simpa using hi)]; rfl
    rw [e] at h
    exact h
  · rw [List.pairwise_map, List.pairwise_iff_getElem]
    intro i j hi hj hij
    have hsz : p.toList.length = xs.length := by simp [hp.sz]
    have := hu i j hij (by omega)
    have gi : p.getD i 0 = p.toList[i] := by simp [Array.getD, show i < p.size by rw [hp.sz]; omega]
    have gj : p.getD j 0 = p.toList[j] := by simp [Array.getD, show j < p.size by rw [hp.sz]; omega]
    rw [gi, gj] at this
    exact this
theorem vals_getD : ∀ {xs : List V} {us : List Value} (i : Nat), Vals xs us → RelV (xs.getD i .non) (us.getD i Value.none)
  | _, _, _, .nil => rfl
  | _, _, 0, .cons r _ => r
  | _, _, i + 1, .cons _ t => by simpa using vals_getD i t
theorem vals_mapD {xs : List V} {us : List Value} (r : Vals xs us) : ∀ l : List Nat, Vals (l.map fun i => xs.getD i .non) (l.map fun i => us.getD i Value.none)
  | [] => .nil
  | i :: l => .cons (vals_getD i r) (vals_mapD r l)
theorem dvs_getD {H : Hp} {g : V → PyData} : ∀ {ys : List V} {xs : List V} {i : Nat}, Dvs H ys (xs.map g) → i < xs.length → Dv H (ys.getD i .non) (g (xs.getD i .non))
  | _, [], _, _, h => by simp at h
  | _, _ :: _, 0, .cons h _, _ => h
  | _, _ :: _, i + 1, .cons _ t, hi => by simpa using dvs_getD (i := i) t (by simpa using hi)
def SortFin (X : Cx) (pins : List (Addr × Obj)) (σ : St) (H : Hp) {α : Type} (lt : α → α → Bool) (kf : V → α) (xs : List V) (Q : VK) : Prop :=
  ∀ a ys H', Same H H' → H a = none → H' a = none → InOrder lt kf ys xs → Q (.ref a) (upd H' a (.lst ys))
theorem asks_pair {H' : Hp} {s' : Shared} {xs ys : List V} {us : List Value} {A : Around} (I : Inv X pins σ H' s') (rv : Vals ys us) (dv : Dvs H' ys (xs.map fun v => .tuple [.int (kf v).1, .str (kf v).2])) :
    Asks xs.length (fun i j => ltIS (kf (xs.getD i .non)) (kf (xs.getD j .non))) (fun z => z = s') (kas_ask X.prog X.w A (tuples' true) us) := by
  intro i j C z hi hj hz hC
  subst hz
  have one : ∀ i, i < xs.length → ∃ x t t2, us.getD i Value.none = .ref x ∧ IsTup z.heap x #[.int (kf (xs.getD i .non)).1 t, .str (kf (xs.getD i .non)).2 t2] := fun i hi => by
    have d := dvs_getD dv hi
    have r := vals_getD i rv
    generalize ys.getD i .non = y at d r
    generalize us.getD i Value.none = u at r
    cases d with
    | tup h q =>
      have r' : u = .ref _ := r
      obtain ⟨its, rr, tt, _⟩ := I.tuple (.of h)
      cases q with
      | cons h1 q =>
        cases q with
        | cons h2 q =>
          cases q
          cases h1; cases h2
          cases rr with
          | cons r1 rr =>
            cases rr with
            | cons r2 rr =>
              cases rr
              obtain ⟨t1, rfl⟩ := r1
              obtain ⟨t2, rfl⟩ := r2
              exact ⟨_, t1, t2, r', tt⟩
  obtain ⟨x, t, t2, e1, hx⟩ := one i hi
  obtain ⟨y, u, u2, e2, hy⟩ := one j hj
  show wpAny (model X.prog X.w) A (keyLt' (tuples' true) (us.getD i Value.none) (us.getD j Value.none)) C (fun _ _ => False) z
  rw [e1, e2]
  exact lt_pair hx hy (hC _ rfl)
theorem kinds_pair {H' : Hp} {s' : Shared} : ∀ {xs ys : List V} {us : List Value}, Inv X pins σ H' s' → Vals ys us → Dvs H' ys (xs.map fun v => .tuple [.int (kf v).1, .str (kf v).2]) →
    ∃ fs, KatTups s'.heap us fs ∧ fs.length = us.length ∧ ∀ v ∈ fs, Looks (model X.prog X.w) s'.heap (typeOf v) (.type "int")
  | [], _, _, I, rv, dv => by
    cases dv
    cases rv
    exact ⟨[], trivial, rfl, fun _ z => nomatch z⟩
  | x :: xs, _, _, I, rv, dv => by
    cases dv with
    | cons d dv =>
      cases rv with
      | cons r rv =>
        obtain ⟨fs, h1, h2, h3⟩ := kinds_pair I rv dv
        cases d with
        | tup h q =>
          obtain ⟨its, rr, tt, _⟩ := I.tuple (.of h)
          cases q with
          | cons q1 q =>
            cases q with
            | cons q2 q =>
              cases q
              cases q1; cases q2
              cases rr with
              | cons r1 rr =>
                cases rr with
                | cons r2 rr =>
                  cases rr
                  obtain ⟨t1, rfl⟩ := r1
                  obtain ⟨t2, rfl⟩ := r2
                  cases r
                  obtain ⟨o, ho, hc, n, hd⟩ := tt
                  refine ⟨_ :: fs, KatTups.cons ho hc hd rfl h1, by simp [h2], fun v hv => ?_⟩
                  rcases List.mem_cons.mp hv with rfl | hv
                  · exact .now
                  · exact h3 v hv
end
end L2

namespace L2
open PySem PySem.Spec PyProof.Rows PySem.W
section
variable {X : Cx} {pins : List (Addr × Obj)} {σ : St} {H : Hp} {s : Shared} {k : Nat} {f : Addr} {fd : FuncData} {ps : List Str} {sp : Sp} {kf : V → Int × Str} {A : Around}
end
end L2

namespace L2
open PySem PySem.Spec PyProof.Rows PySem.W
def SortKP (sp : Sp) (K : PySem.W.Frag) (vs : List V) (H : Hp) (Q : VK) : Prop := ∃ a xs kf, vs = [.ref a] ∧ SqL K H a xs ∧ xs.length < 64 ∧ KeyRun sp kf H xs ∧ ∀ l ys H', Same H H' → H l = none → H' l = none → InOrder ltIS kf ys xs → Q (.ref l) (upd H' l (.lst ys))
def tSortK (K : PySem.W.Frag) (sp : Sp) (t : TA) : TE := fun σ H Q => t σ H fun vs H1 => SortKP sp K vs H1 Q
section
variable {X : Cx} {k : Nat} {f : Addr} {ps : List Str} {sp : Sp} {e : Expr} {t : TA} {x : Str} {p p2 pos kpos : Pos}
end
end L2

namespace L2
open PySem PySem.Spec PyProof.Rows
theorem closure_ok {scope : Scope} {env : Env} (h : ∀ x ∈ scope.names, x.2 = .free → ∃ c, env.cells.lookup x.1 = some c) :
    ∃ cl, closureFor scope env = pure cl ∧ (∀ x c, cl.lookup x = some c → env.cells.lookup x = some c) ∧ ∀ x ∈ scope.names, x.2 = .free → ∃ c, cl.lookup x.1 = some c := by
  have key : ∀ (l : List (Str × NameKind)) (acc : List (Str × Addr)), (∀ x ∈ l, x.2 = .free → ∃ c, env.cells.lookup x.1 = some c) → (∀ x c, acc.lookup x = some c → env.cells.lookup x = some c) →
      ∃ cl, (forIn l acc (fun (x : Str × NameKind) (r : List (Str × Addr)) => (match x with
        | (name, kind) => if (kind == NameKind.free) = true then (do let c ← cellOf env name; pure (ForInStep.yield ((name, c) :: r))) else pure (ForInStep.yield r) : Sem (ForInStep (List (Str × Addr))))) : Sem _) = pure cl ∧
        (∀ x c, cl.lookup x = some c → env.cells.lookup x = some c) ∧ (∀ x ∈ l, x.2 = .free → ∃ c, cl.lookup x.1 = some c) ∧ ∀ x, (∃ c, acc.lookup x = some c) → ∃ c, cl.lookup x = some c := by
    intro l
    induction l with
    | nil => intro acc _ ha; exact ⟨acc, rfl, ha, fun _ z => (nomatch z), fun _ z => z⟩
    | cons p r ih =>
      intro acc hl ha
      obtain ⟨n, k⟩ := p
      rw [List.forIn_cons]
      by_cases hk : k = .free
      · subst hk
        obtain ⟨c, hc⟩ := hl (n, .free) List.mem_cons_self rfl
        have hcell : cellOf env n = pure c := by unfold cellOf; rw [hc]
        obtain ⟨cl, e, h1, h2, h3⟩ := ih ((n, c) :: acc) (fun x hx => hl x (List.mem_cons_of_mem _ hx)) (fun x d hd => by
          rw [List.lookup_cons] at hd
          by_cases hx : x = n
          · subst hx; rw [beq_self_eq_true] at hd; cases hd; exact hc
          · rw [beq_eq_false_iff_ne.mpr hx] at hd; exact ha x d hd)
        refine ⟨cl, ?_, h1, fun x hx hf => ?_, fun x ⟨d, hd⟩ => h3 x ?_⟩
        · simp only [beq_self_eq_true, if_true, hcell]
          exact e
        · rcases List.mem_cons.mp hx with rfl | hx
          · exact h3 n ⟨c, by rw [List.lookup_cons, beq_self_eq_true]⟩
          · exact h2 x hx hf
        · rw [List.lookup_cons]
          by_cases hx : x = n
          · subst hx; rw [beq_self_eq_true]; exact ⟨c, rfl⟩
          · rw [beq_eq_false_iff_ne.mpr hx]; exact ⟨d, hd⟩
      · obtain ⟨cl, e, h1, h2, h3⟩ := ih acc (fun x hx => hl x (List.mem_cons_of_mem _ hx)) ha
        refine ⟨cl, ?_, h1, fun x hx hf => ?_, h3⟩
        · have : (k == NameKind.free) = false := by simpa using hk
          simp only [this, Bool.false_eq_true, if_false]
          exact e
        · rcases List.mem_cons.mp hx with rfl | hx
          · exact absurd hf hk
          · exact h2 x hx hf
  obtain ⟨cl, e, h1, h2, _⟩ := key scope.names [] h (fun _ _ z => by simp at z)
  refine ⟨cl, ?_, h1, h2⟩
  unfold closureFor
  show (forIn scope.names [] _ >>= fun cs => pure cs) = _
  refine Eq.trans (congrArg (· >>= _) e) rfl
end L2
namespace L2
open PySem PySem.Spec PyProof.Rows
theorem relabel_look {env : Env} {scope : Scope} {x : Str} : (relabel scope env).names.lookup x = (scope.names.lookup x).map fun k => if (k == NameKind.free && env.scope.kind == .function && env.kindOf x == some .cell) = true then .cell else k := by
  unfold relabel
  show List.lookup x (List.map _ scope.names) = _
  generalize scope.names = l
  induction l with
  | nil => rfl
  | cons p r ih =>
    obtain ⟨n, k⟩ := p
    rw [List.map_cons]
    dsimp only
    by_cases hx : x = n
    · subst hx
      by_cases hc : (k == NameKind.free && env.scope.kind == .function && env.kindOf x == some .cell) = true
      · rw [if_pos hc, List.lookup_cons, List.lookup_cons, beq_self_eq_true]; simp only [Option.map_some, if_pos hc]
      · rw [if_neg hc, List.lookup_cons, List.lookup_cons, beq_self_eq_true]; simp only [Option.map_some, if_neg hc]
    · have hb : (x == n) = false := beq_eq_false_iff_ne.mpr hx
      by_cases hc : (k == NameKind.free && env.scope.kind == .function && env.kindOf n == some .cell) = true
      · rw [if_pos hc, List.lookup_cons, List.lookup_cons, hb]; exact ih
      · rw [if_neg hc, List.lookup_cons, List.lookup_cons, hb]; exact ih
theorem mem_lookup {α : Type} {x : Str} {k : α} : ∀ {l : List (Str × α)}, l.lookup x = some k → (x, k) ∈ l
  | [], h => by simp at h
  | (n, j) :: r, h => by
    rw [List.lookup_cons] at h
    by_cases hx : x = n
    · subst hx; rw [beq_self_eq_true] at h; cases h; exact List.mem_cons_self
    · rw [beq_eq_false_iff_ne.mpr hx] at h; exact List.mem_cons_of_mem _ (mem_lookup h)
def cxLC (X : Cx) (N : List Str) (scope : Scope) (cl : List (Str × Addr)) (C : Addr) (s : Shared) (H : Hp) (fp : List Addr) : Cx :=
  { X with N := N, s₀ := s, H₀ := H, env := compEnvC scope cl C X.env, outer := X.stack, stack := X.stack, ex := fp, fn := fun _ => false, pn := [], xe := fun _ _ => False }
structure LCNames (X : Cx) (T M : List Str) (scope : Scope) : Prop where
  kind : scope.kind = .function
  cell : ∀ y ∈ scope.names, y.2 ≠ .cell
  names : ∀ y ∈ scope.names, y.2 = .local → scope.names.lookup y.1 = some .local
  free : ∀ y ∈ scope.names, y.2 = .free → X.env.scope.names.lookup y.1 = some .cell ∨ X.env.scope.names.lookup y.1 = some .free
  len : M.length = X.N.length
  old : ∀ (i : Nat) x, M[i]? = some x → X.N[i]? = some x ∧ scope.names.lookup x = some .free ∨ scope.names.lookup x = none
section
variable {X : Cx} {pins : List (Addr × Obj)} {σ : St} {H : Hp} {s : Shared} {T M : List Str} {scope : Scope} {cl : List (Str × Addr)} {fp : List Addr}
theorem lc_ok {C : Addr} (I : Inv X pins σ H s) (hN : LCNames X T M scope) (h1 : ∀ x c, cl.lookup x = some c → X.env.cells.lookup x = some c) (h2 : ∀ x ∈ scope.names, x.2 = .free → ∃ c, cl.lookup x.1 = some c)
    (hC : s.heap.objs.size ≤ C) (hf : ∀ b ∈ fp, FpOk X pins H b) (hfe : ∀ b ∈ fp, b < s.heap.objs.size) : (cxLC X (T ++ M) scope cl C s H fp).Ok where
  mod := I.ok.mod
  kind := hN.kind
  glob := I.ok.glob
  blt := I.ok.blt
  above := hC
  inj := fun x y c e1 e2 => I.ok.inj x y c (h1 x c e1) (h1 y c e2)
  has := fun x hx => by
    have hx' : (relabel scope X.env).names.lookup x = some .cell ∨ (relabel scope X.env).names.lookup x = some .free := hx
    rw [relabel_look] at hx'
    cases e : scope.names.lookup x with
    | none => rw [e] at hx'; simp at hx'
    | some k =>
      have hm := mem_lookup e
      have hk : k = .free := by
        rw [e] at hx'
        simp only [Option.map_some, Option.some.injEq] at hx'
        by_cases hf : k = .free
        · exact hf
        · have : (k == NameKind.free) = false := by simpa using hf
          simp only [this, Bool.false_and, Bool.false_eq_true, if_false] at hx'
          rcases hx' with hx' | hx'
          · exact absurd hx' (hN.cell _ hm)
          · exact hx'
      exact h2 (x, k) hm hk
  cab := fun _ _ z => by cases z
  hd := I.ok.hd
  frames := I.ok.frames
  stk := .inl rfl
  exf := fun b hb => ⟨Nat.ne_of_lt (Nat.lt_of_lt_of_le (hfe b hb) hC), fun x c e => (hf b hb).2.2.2.2.1 x c (h1 x c e)⟩
  bs := I.bs
  bsz := Nat.le_trans I.ok.bsz I.sz
  noex := fun b o e hb => by
    rcases (hf b hb).2.2.2.1 with z | z
    · exact I.ok.noex b o e z
    · exact absurd (Nat.lt_of_lt_of_le (Heap.lt_size e) (Nat.le_trans I.ok.bsz z)) (Nat.lt_irrefl _)
  exfs := fun b hb z => by
    rcases List.mem_cons.mp (I.stkSub b z) with e | e
    · exact (hf b hb).2.1 e
    · exact (hf b hb).2.2.1 e
  funs := I.stack
  frf := I.stkFree
theorem lc_start {C : Addr} {h₁ : Heap} {tk : Nat} (I : Inv X pins σ H s) (hN : LCNames X T M scope) (h1 : ∀ x c, cl.lookup x = some c → X.env.cells.lookup x = some c) (h2 : ∀ x ∈ scope.names, x.2 = .free → ∃ c, cl.lookup x.1 = some c)
    (hC : s.heap.objs.size ≤ C) (hf : ∀ b ∈ fp, FpOk X pins H b) (hfe : ∀ b ∈ fp, b < s.heap.objs.size)
    {m : Str → Option Value} (hn : h₁.Ns C m) (old : ∀ b o, s.heap.get? b = some o → h₁.get? b = some o) :
    Inv (cxLC X (T ++ M) scope cl C s H fp) [] (List.replicate T.length none ++ σ) H { s with heap := h₁, toks := tk } where
  ok := lc_ok I hN h1 h2 hC hf hfe
  os := rfl
  bare := I.bare
  base := Un.kept old
  loc := by
    refine ⟨m, hn, fun i x v e1 e2 e3 => ?_⟩
    have e1' : (T ++ M)[i]? = some x := e1
    by_cases hi : i < T.length
    · rw [List.getElem?_append_left (by simpa using hi), List.getElem?_replicate, if_pos hi] at e2
      cases e2
    · have hi' : T.length ≤ i := Nat.le_of_not_lt hi
      rw [List.getElem?_append_right hi'] at e1'
      rw [List.getElem?_append_right (by simpa using hi'), List.length_replicate] at e2
      have vis : Vis (relabel scope X.env) x := e3
      rcases hN.old _ x e1' with ⟨hx, hfr⟩ | hno
      · obtain ⟨m0, hn0, hl0⟩ := I.loc
        have hk := hN.free _ (mem_lookup hfr) rfl
        have hk' : X.env.scope.names.lookup x = some .cell ∨ X.env.scope.names.lookup x = some .free := hk
        obtain ⟨u, r, l⟩ := hl0 _ x v hx e2 (.inr hk')
        refine ⟨u, r, .inr ?_⟩
        rcases l with ⟨z, _⟩ | ⟨_, c, hc, hcell⟩
        · have z' : X.env.scope.names.lookup x = some .local := z
          rw [z'] at hk'; rcases hk' with q | q <;> cases q
        · obtain ⟨c', hc'⟩ := h2 _ (mem_lookup hfr) rfl
          have : c' = c := by have := h1 _ _ hc'; rw [hc] at this; exact (Option.some.inj this).symm
          subst this
          refine ⟨?_, c', hc', ?_⟩
          · show (relabel scope X.env).names.lookup x = some .cell ∨ (relabel scope X.env).names.lookup x = some .free
            rw [relabel_look, hfr]
            simp only [Option.map_some, Option.some.injEq]
            by_cases hc : (NameKind.free == NameKind.free && X.env.scope.kind == .function && X.env.kindOf x == some .cell) = true
            · left; rw [if_pos hc]
            · right; rw [if_neg hc]
          · obtain ⟨o, ho, hd⟩ := hcell
            exact ⟨o, old _ _ ho, hd⟩
      · unfold Vis at vis
        rw [relabel_look, hno] at vis
        simp at vis
  cell := fun x c e => by
    obtain ⟨v, o, ho, hd⟩ := I.cell x c (h1 x c e)
    exact ⟨v, o, old _ _ ho, hd⟩
  free := I.hok.fresh hC
  freeC := fun x c e => I.freeC x c (h1 x c e)
  pin := fun p hp => nomatch hp
  hok := I.hok.kept old
  len := by
    show (List.replicate T.length none ++ σ).length = (T ++ M).length
    rw [List.length_append, List.length_append, List.length_replicate, hN.len, I.len]
theorem lc_back {C D : Addr} {s' : Shared} {σ' : St} {H' : Hp} {acc : List V} {its : List Value} {n : Nat} (I : Inv X pins σ H s) (I' : Inv (cxLC X (T ++ M) scope cl C s H fp) [] σ' H' s')
    (hf : ∀ b ∈ fp, FpOk X pins H b) (hD : s.heap.objs.size ≤ D) (hn : H' D = none) (hl : acc.length ≤ sizeLine) (r : Vals acc its) (hd : s'.heap.get? D = some { cls := .type "list", data := .seq its.toArray n }) :
    Inv X pins σ (upd H' D (.lst acc)) s' := by
  have U : Un (frs X.stack) fp H H' s.heap s'.heap := I'.base
  have neD : ∀ b o, s.heap.get? b = some o → b ≠ D := fun b o e => Nat.ne_of_lt (Nat.lt_of_lt_of_le (Heap.lt_size e) hD)
  have neT : ∀ b u, H' b = some u → b ≠ D := fun b u e => ne_of_none e hn
  refine I.call' (ch := fp) I'.os ⟨U.keep, U.slot, fun b o e1 e2 e3 => ?_, U.there, fun b xs e => ?_, fun b o u e => ?_, fun b ps e => ?_⟩ (fun b u e => ?_) I'.bare (fun b hb => ⟨(hf b hb).2.2.2.1, (hf b hb).2.1, (hf b hb).2.2.2.2.1, (hf b hb).2.2.2.2.2⟩)
  · rw [upd_ne (neD b o e1)]; exact U.free b o e1 e2 e3
  · rw [upd_ne (neT b _ (U.tups b xs e))]; exact U.tups b xs e
  · rw [upd_ne (neT b _ (U.frzs b o u e))]; exact U.frzs b o u e
  · obtain ⟨more, q⟩ := U.tbls b ps e
    exact ⟨more, by rw [upd_ne (neT b _ q)]; exact q⟩
  · by_cases hb : b = D
    · subst hb
      rw [upd_same] at e
      cases e
      exact ⟨hl, its, n, r, hd⟩
    · rw [upd_ne hb] at e
      exact (I'.hok b u e).stay (fun c v _ q => q) (fun c q => by rw [upd_ne (neT c _ q)]; exact q) fun c xs q => by rw [upd_ne (neT c _ q)]; exact q
end
end L2

namespace L2
open PySem PySem.Spec PyProof.Rows
theorem codeAny_lc {prog : Program} {w : World} {A : Around} {R : Result → Shared → Prop} {s : Shared} {elt target iter : Expr} {ifs : List Expr} {scope : Scope} {pos : Pos} {it acc : Value} {env : Env} (I : Nat → Shared → Prop)
    (turn : ∀ n s, I n s → wpAny (model prog w) A (pyNext it) (fun r s₁ => match r with
      | none => R (.ok .next) s₁
      | some v => wpAny (model prog w) A (letOwnedTupleGo target it v) (fun _ s₁' => wpAny (model prog w) A (assign target env v) (fun _ s₂ =>
          wpAny (model prog w) A (forIn ifs true fun c r => if r = true then do let ok ← isTrue c env (eval c env); pure (ForInStep.yield ok) else pure (ForInStep.yield r)) (fun ok s₃ =>
            if ok = true then wpAny (model prog w) A (eval elt env) (fun x s₄ =>
              wpAny (model prog w) A (call (.builtin "list.append") [acc, x]) (fun _ s₅ => ∃ m, m < n ∧ I m s₅) (fun _ _ => False) s₄) (fun _ _ => False) s₃
            else ∃ m, m < n ∧ I m s₃) (fun _ _ => False) s₂) (fun _ _ => False) s₁') (fun _ _ => False) s₁) (fun _ _ => False) s)
    (n : Nat) (h : I n s) :
    codeAny (model prog w) A (.compLoop (.ListComp elt [⟨target, iter, ifs, 0⟩] scope pos) 0 it acc env) R s := by
  refine codeAny_loop rfl I (fun n s hI => ?_) n h
  show wpAny _ A ((compTurn (.ListComp elt [⟨target, iter, ifs, 0⟩] scope pos) 0 it acc env).onRaise (fun x => do noteFrame x env; theTreesLotGoes x)) _ _ s
  refine wpAny_noted ?_
  rw [compTurn_list]
  refine wpAny_bind (wpAny_standAt (wpAny_bind (wpAny_mono (turn n s hI) (fun r s₁ h₁ => ?_) fun _ _ h' => h'.elim)))
  cases r with
  | none => exact wpAny_pure h₁
  | some v =>
    refine wpAny_bind (wpAny_mono h₁ (fun _ s₁' h₁' => ?_) fun _ _ h' => h'.elim)
    refine wpAny_bind (wpAny_mono h₁' (fun _ s₂ h₂ => wpAny_bind (wpAny_mono h₂ (fun ok s₃ h₃ => ?_) fun _ _ h' => h'.elim)) fun _ _ h' => h'.elim)
    cases ok with
    | false => exact wpAny_pure ⟨rfl, h₃⟩
    | true =>
      exact wpAny_bind (wpAny_bind (wpAny_mono h₃ (fun x s₄ h₄ => wpAny_bind (wpAny_mono h₄ (fun _ s₅ h₅ => wpAny_pure (wpAny_pure ⟨rfl, h₅⟩)) fun _ _ h' => h'.elim)) fun _ _ h' => h'.elim))
def PIf (X : Cx) (ifs : List Expr) (t : TT) : Prop :=
  ∀ (pins : List (Addr × Obj)) (s : Shared) (σ : St) (H : Hp) (Q : Bool → Hp → Prop), Inv X pins σ H s → t σ H Q →
    wpAny (model X.prog X.w) X.A (forIn ifs true fun c r => if r = true then do let ok ← isTrue c X.env (eval c X.env); pure (ForInStep.yield ok) else pure (ForInStep.yield r)) (TP X pins σ Q) X.xe s
def tYes : TT := fun _ H Q => Q true H
theorem pif_nil {X : Cx} : PIf X [] tYes := fun _ _ _ H _ I h => wpAny_tests_nil ⟨H, I, h⟩
theorem pif_one {X : Cx} {c : Expr} {t : TT} (h : PT X c t) : PIf X [c] t := fun pins s σ H Q I q => wpAny_tests_one (h pins s σ H Q I q)
def LCW (k : Nat) (g : TG) (tc : TT) (te : TE) (Fin : List V → Hp → Prop) (σ : St) (J : It) (H1 : Hp) : Prop :=
  ∃ W : Nat → Nat → List V → Hp → Prop, (∃ m, W 0 m [] H1) ∧ ∀ i m acc H, W i m acc H →
    (J.stop i H ∧ Fin acc H) ∨ (J.go i H ∧ acc.length < sizeLine ∧ ∀ x H', J.yld i H x H' → g x (List.replicate k none ++ σ) H' fun σ2 H2 => tc σ2 H2 fun b H3 =>
      if b = true then te σ2 H3 fun y H4 => ∃ m', m' < m ∧ W (i + 1) m' (acc ++ [y]) H4 else ∃ m', m' < m ∧ W (i + 1) m' acc H3)
section
variable {X : Cx} {pins : List (Addr × Obj)} {σ : St} {H : Hp} {s : Shared} {T M : List Str} {scope : Scope} {cl : List (Str × Addr)} {fp : List Addr} {g : TG} {tc : TT} {te : TE} {tg elt iter : Expr} {ifs : List Expr} {pos : Pos}
theorem Inv.forget {X : Cx} {pins : List (Addr × Obj)} {σ σ' : St} {H : Hp} {s : Shared} (I : Inv X pins σ' H s) (k : Nat) (hk : k + σ.length = σ'.length) (h : σ'.drop k = σ) : Inv X pins (List.replicate k none ++ σ) H s := by
  refine I.weak (by simp [hk]) (fun i v e => ?_)
  by_cases hi : i < k
  · rw [List.getElem?_append_left (by simpa using hi), List.getElem?_replicate, if_pos hi] at e; cases e
  · rw [List.getElem?_append_right (by simpa using hi), List.length_replicate, ← h, List.getElem?_drop] at e
    have : k + (i - k) = i := by omega
    rw [this] at e; exact e
theorem lc_run {it : Addr} {tn : Nat → Heap → Prop} {J : It} {RR : Value → Addr → Result → Shared → Prop} {Fin : List V → Hp → Prop} {E : Value → Shared → Prop}
    (hN : LCNames X T M scope) (hcalm : X.calm = true) (h1 : ∀ x c, cl.lookup x = some c → X.env.cells.lookup x = some c) (h2 : ∀ x ∈ scope.names, x.2 = .free → ∃ c, cl.lookup x.1 = some c)
    (hg : ∀ cl C s H fp, PG (cxLC X (T ++ M) scope cl C s H fp) tg g) (hgk : ∀ v H Q, g v (List.replicate T.length none ++ σ) H Q → g v (List.replicate T.length none ++ σ) H fun σ2 H2 => Q σ2 H2 ∧ T.length + σ.length = σ2.length ∧ σ2.drop T.length = σ)
    (hc : ∀ cl C s H fp, PIf (cxLC X (T ++ M) scope cl C s H fp) ifs tc) (he : ∀ cl C s H fp, PE (cxLC X (T ++ M) scope cl C s H fp) elt te)
    (I : Inv X pins σ H s) (Tn : Turn X.prog X.w X.K tg J fp it tn) (st : tn 0 s.heap) (hf : ∀ b ∈ fp, FpOk X pins H b) (hW : LCW T.length g tc te Fin σ J H)
    (hR : ∀ D C s' H' acc m, s.heap.objs.size ≤ D → s.heap.objs.size ≤ C → C ≠ D → s'.heap.Ns C m → H' C = none → H' D = none → Inv X pins σ (upd H' D (.lst acc)) s' → Fin acc H' → RR (.ref D) C (.ok .next) s') :
    wpAny (model X.prog X.w) X.A (newList []) (fun acc s₃ => wpAny (model X.prog X.w) X.A (newFunctionEnv scope X.env.globals cl [] X.env.qual none .none (some X.env)) (fun cenv s₄ =>
      codeAny (model X.prog X.w) X.A (.compStart (.ListComp elt [⟨tg, iter, ifs, 0⟩] scope pos) 0 (.ref it) acc { cenv with scope := relabel scope X.env }) (RR acc cenv.locals) s₄) E s₃) E s := by
  refine wpAny_newObj_type (wpAny_newFunctionEnv hN.cell (by intro y hy; simp at hy) (fun h₁ hns₁ hsb₁ => ?_) hN.kind)
  dsimp only at hns₁ hsb₁ ⊢
  generalize hH2 : s.heap.push { cls := .type "list", dict := none, data := .seq ([] : List Value).toArray } = H2 at hns₁ hsb₁ ⊢
  have hC : H2.objs.size = s.heap.objs.size + 1 := by rw [← hH2, Heap.size_push]
  have hDC : s.heap.objs.size ≠ H2.objs.size := by rw [hC]; exact Nat.ne_of_lt (Nat.lt_succ_self _)
  have hCle : s.heap.objs.size ≤ H2.objs.size := by rw [hC]; exact Nat.le_succ _
  have hfe : ∀ b ∈ fp, b < s.heap.objs.size := fun b hb => by obtain ⟨o, ho, _⟩ := Tn.obj _ _ st b hb; exact Heap.lt_size ho
  have old : ∀ b o, s.heap.get? b = some o → h₁.get? b = some o := fun b o e => hsb₁.extBut b o (Nat.ne_of_lt (Nat.lt_of_lt_of_le (Heap.lt_size e) hCle)) (Heap.get?_push_of_some _ (hH2 ▸ Heap.get?_push_of_some _ e))
  have hacc : h₁.PlainList s.heap.objs.size #[] := ⟨_, hsb₁.extBut _ _ hDC (Heap.get?_push_of_some _ (hH2 ▸ Heap.get?_push_size _ rfl))⟩
  generalize hDe : s.heap.objs.size = D at *
  generalize hCe : H2.objs.size = C at *
  have I0 : Inv (cxLC X (T ++ M) scope cl C s H fp) [] (List.replicate T.length none ++ σ) H { s with heap := h₁, toks := s.toks + ([] : List (Str × Value)).length } :=
    lc_start I hN h1 h2 (by rw [hDe]; exact hCle) hf (by rw [hDe]; exact hfe) hns₁ old
  have st0 : tn 0 h₁ := Tn.keep _ _ _ st fun b _ o e => old b o e
  obtain ⟨W, ⟨m0, w0⟩, turn⟩ := hW
  have nDf : ∀ b ∈ fp, b ≠ D := fun b hb => Nat.ne_of_lt (hfe b hb)
  have stat : ∀ {H' : Hp} {pl : List (Addr × Obj)}, (∀ b ∈ fp, H' b = none) → (∀ p ∈ pl, p.1 = D) → ∀ b ∈ fp, FpOk (cxLC X (T ++ M) scope cl C s H fp) pl H' b := fun {H' pl} hn hp b hb => by
    have ok := I0.ok
    refine ⟨hn b hb, (ok.exf b hb).1, ok.exfs b hb, .inl hb, (ok.exf b hb).2, fun p hq => ?_⟩
    have hq' : p ∈ pl := hq
    rw [hp p hq']; exact Ne.symm (nDf b hb)
  have loop : codeAny (model X.prog X.w) X.A (.compLoop (.ListComp elt [⟨tg, iter, ifs, 0⟩] scope pos) 0 (.ref it) (.ref D) (compEnvC scope cl C X.env)) (RR (.ref D) C) { s with heap := h₁, toks := s.toks + ([] : List (Str × Value)).length } := by
    refine codeAny_lc (fun n s' => ∃ i acc H' its, Inv (cxLC X (T ++ M) scope cl C s H fp) [] (List.replicate T.length none ++ σ) H' s' ∧ tn i s'.heap ∧ (∀ b ∈ fp, H' b = none) ∧ s'.heap.PlainList D its ∧ H' D = none ∧ Vals acc its.toList ∧ acc.length ≤ sizeLine ∧ W i n acc H') ?_ m0
      ⟨0, [], H, #[], I0, st0, fun b hb => (hf b hb).1, hacc, I.hok.fresh (by rw [hDe]; exact Nat.le_refl _), .nil, Nat.zero_le _, w0⟩
    rintro n s3 ⟨i, acc, H3, its, I3, st3, fr3, ⟨nn, ho⟩, hD3, hv, hlen, w3⟩
    have pinD : ∀ {H'} {s'} {σ'} {o : Obj}, Inv (cxLC X (T ++ M) scope cl C s H fp) [] σ' H' s' → s'.heap.get? D = some o → (∀ v, o.data ≠ .cell v) → H' D = none → Inv (cxLC X (T ++ M) scope cl C s H fp) [(D, o)] σ' H' s' := fun {H' s' σ' o} I' e d hn => by
      refine I'.pins_of fun p hp => ?_
      have e' : p = (D, o) := by simpa using hp
      subst e'
      refine ⟨e, hn, hDC, fun z => ?_, d⟩
      have z' : D ∈ frs X.stack := z
      obtain ⟨_, o', ho', _⟩ := I.stack.mem z'
      exact absurd (Heap.lt_size ho') (by rw [hDe]; exact Nat.lt_irrefl _)
    have I3' := pinD I3 ho (fun v z => by cases z) hD3
    rcases turn i n acc H3 w3 with ⟨stop, fin⟩ | ⟨go, hl, step⟩
    · refine thn (Tn.done (cxLC X (T ++ M) scope cl C s H fp) rfl rfl rfl hcalm i _ s3 _ H3 _ I3' (stat fr3 (by simp)) st3 stop) fun r s4 ⟨hr, I4⟩ => ?_
      subst hr
      have e4 := (I4.pin (D, _) (List.mem_append_right _ List.mem_cons_self)).1
      have I4' : Inv (cxLC X (T ++ M) scope cl C s H fp) [] (List.replicate T.length none ++ σ) H3 s4 := I4.pins_of fun p hp => nomatch hp
      obtain ⟨m4, n4, _⟩ := I4'.loc
      exact hR D C s4 H3 acc m4 (Nat.le_refl _) hCle (Ne.symm hDC) n4 I4'.free hD3 (lc_back I I4' hf (by rw [hDe]; exact Nat.le_refl _) hD3 hlen hv (by simpa using e4)) fin
    · refine thn (Tn.item (cxLC X (T ++ M) scope cl C s H fp) rfl rfl rfl hcalm i _ s3 _ H3 _ I3' (stat fr3 (by simp)) st3 go) fun r s4 ⟨u, hr, h4⟩ => ?_
      subst hr
      refine thn h4 fun _ s5 ⟨x, H5, I5, r5, y5, st5, fr5⟩ => ?_
      have I5' := I5.pinned (stat fr5 (by simp)) (Tn.obj _ _ st5)
      refine thn (hg _ _ _ _ _ _ s5 _ H5 x u _ I5' r5 (hgk _ _ _ (step x H5 y5))) fun _ s6 ⟨σ6, H6, I6, q6, q6a, q6b⟩ => ?_
      refine thn (hc _ _ _ _ _ _ s6 σ6 H6 _ I6 q6) fun b s7 ⟨H7, I7, q7⟩ => ?_
      have rest : ∀ {s8 : Shared} {H8 : Hp}, Inv (cxLC X (T ++ M) scope cl C s H fp) ([(D, _)] ++ pinsAt fp s5.heap) σ6 H8 s8 → tn (i + 1) s8.heap ∧ (∀ b ∈ fp, H8 b = none) ∧ s8.heap.PlainList D its ∧ H8 D = none ∧ Inv (cxLC X (T ++ M) scope cl C s H fp) [] (List.replicate T.length none ++ σ) H8 s8 := fun {s8 H8} I8 => by
        refine ⟨Tn.keep _ _ _ st5 fun b hb o e => (I8.pin (b, o) (List.mem_append_right _ (List.mem_append_right _ (mem_pinsAt hb e)))).1, fun b hb => ?_, ⟨nn, (I8.pin (D, _) (List.mem_append_right _ (List.mem_append_left _ List.mem_cons_self))).1⟩, (I8.pin (D, _) (List.mem_append_right _ (List.mem_append_left _ List.mem_cons_self))).2.1, (I8.forget T.length q6a q6b).pins_of fun p hp => nomatch hp⟩
        obtain ⟨o, e, d⟩ := Tn.obj _ _ st5 b hb
        exact (I8.pin (b, o) (List.mem_append_right _ (List.mem_append_right _ (mem_pinsAt hb e)))).2.1
      cases b with
      | false =>
        obtain ⟨m', hm, w7⟩ := q7
        obtain ⟨a1, a2, a3, a4, a5⟩ := rest I7
        exact ⟨m', hm, i + 1, acc, H7, its, a5, a1, a2, a3, a4, hv, hlen, w7⟩
      | true =>
        refine thn (he _ _ _ _ _ _ s7 σ6 H7 _ I7 q7) fun y s8 ⟨yv, H8, I8, r8, m', hm, w8⟩ => ?_
        obtain ⟨a1, a2, a3, a4, a5⟩ := rest I8
        have hsz : its.size ≤ sizeLine := by have := hv.length; simp at this; omega
        refine wpAny_list_append_plain (hsz := hsz) a3 fun h9 hl9 hs9 => ?_
        refine ⟨m', hm, i + 1, acc ++ [yv], H8, its.push y, ?_, ?_, a2, hl9, a4, ?_, by simp; omega, w8⟩
        · exact a5.turned (t' := s8.toks) (it := D) (fun b o hb e => (hs9.2 b hb).trans e) a4 hDC (.inr (by show s.heap.objs.size ≤ D; rw [hDe]; exact Nat.le_refl _)) (fun x c e z => by
            obtain ⟨v, o, ho, _⟩ := I.cell x c (h1 x c e)
            exact absurd (Heap.lt_size ho) (by rw [hDe, z]; exact Nat.lt_irrefl _)) (fun p hp => nomatch hp)
        · exact Tn.keep _ _ _ a1 fun b hb o e => (hs9.2 b (nDf b hb)).trans e
        · simpa using Vals.append hv (.cons r8 .nil)
  exact codeAny_compStart_list loop (Tn.self _ _ _ _ _ st0 loop)
end
end L2

namespace L2
open PySem PySem.Spec PyProof.Rows
def GOwn (k : Nat) (g : TG) : Prop := ∀ v (τ σ : St) H Q, τ.length = k → g v (τ ++ σ) H Q → g v (τ ++ σ) H fun σ2 H2 => Q σ2 H2 ∧ ∃ τ', τ'.length = k ∧ σ2 = τ' ++ σ
def GsOwn (k : Nat) (g : TGs) : Prop := ∀ vs (τ σ : St) H Q, τ.length = k → g vs (τ ++ σ) H Q → g vs (τ ++ σ) H fun σ2 H2 => Q σ2 H2 ∧ ∃ τ', τ'.length = k ∧ σ2 = τ' ++ σ
theorem gown_name {k i : Nat} (h : i < k) : GOwn k (gName i) := fun v τ σ H Q hl q => by
  have e : (τ ++ σ).set i (some v) = τ.set i (some v) ++ σ := List.set_append_left _ _ (by omega)
  exact ⟨q, τ.set i (some v), by simp [hl], e⟩
theorem gsown_nil {k : Nat} : GsOwn k gNil := fun vs τ σ H Q hl ⟨e, q⟩ => ⟨e, q, τ, hl, rfl⟩
theorem gsown_cons {k i : Nat} {u : TGs} (h : i < k) (h2 : GsOwn k u) : GsOwn k (gCons (gName i) u) := fun vs τ σ H Q hl ⟨v, r, e, q⟩ => by
  have e1 : (τ ++ σ).set i (some v) = τ.set i (some v) ++ σ := List.set_append_left _ _ (by omega)
  refine ⟨v, r, e, ?_⟩
  show u r ((τ ++ σ).set i (some v)) H _
  rw [e1]
  have q' : u r ((τ ++ σ).set i (some v)) H Q := q
  rw [e1] at q'
  exact h2 r _ σ H Q (by simp [hl]) q'
theorem gown_tup {K : PySem.W.Frag} {k n : Nat} {u : TGs} (h : GsOwn k u) : GOwn k (gTup K n u) := fun v τ σ H Q hl ⟨a, xs, e, hq, hn, q⟩ => ⟨a, xs, e, hq, hn, h xs τ σ H Q hl q⟩
def LCFin (Q : VK) (acc : List V) (H : Hp) : Prop := ∀ p, H p = none → Q (.ref p) (upd H p (.lst acc))
def tLC (k : Nat) (wi : TI) (g : TG) (tc : TT) (te : TE) : TE := fun σ H Q => wi σ H fun J H1 => LCW k g tc te (LCFin Q) σ J H1
section
variable {X : Cx} {T M : List Str} {scope : Scope} {g : TG} {tc : TT} {te : TE} {wi : TI} {tg elt iter : Expr} {ifs : List Expr} {pos : Pos}
theorem pe_lc (hN : LCNames X T M scope) (hcalm : X.calm = true) (hi : PI X tg iter wi) (hg : ∀ cl C s H fp, PG (cxLC X (T ++ M) scope cl C s H fp) tg g) (hgo : GOwn T.length g)
    (hc : ∀ cl C s H fp, PIf (cxLC X (T ++ M) scope cl C s H fp) ifs tc) (he : ∀ cl C s H fp, PE (cxLC X (T ++ M) scope cl C s H fp) elt te)
    (hs : ∀ x, foldedSetIterable iter X.env x = pure x := by intro _; rfl) : PE X (.ListComp elt [⟨tg, iter, ifs, 0⟩] scope pos) (tLC T.length wi g tc te) := by
  intro pins s σ H Q I h
  obtain ⟨cl, hcl, h1, h2⟩ := closure_ok (scope := scope) (env := X.env) fun x hx hf => I.ok.has x.1 (hN.free x hx hf)
  rw [eval_ListComp]
  refine wpAny_comprehension_free (use := none) rfl hs hcl hN.kind hN.names (thn (hi pins s σ H _ I h) fun xv s1 h1' => thn h1' fun itv s2 h2' => ?_)
  obtain ⟨it, fp, tn, J, H2, e, I2, Tn, st, hf, hW⟩ := h2'
  subst e
  refine lc_run (RR := fun acc C => compPost (model X.prog X.w) X.A X.xe none (EP X pins σ Q) acc C) hN hcalm h1 h2 hg (fun v H Q q => ?_) hc he I2 Tn st hf hW ?_
  · have := hgo v (List.replicate T.length none) σ H Q (by simp) q
    refine (by
      have e : (fun (σ2 : St) (H2 : Hp) => Q σ2 H2 ∧ T.length + σ.length = σ2.length ∧ σ2.drop T.length = σ) = fun σ2 H2 => Q σ2 H2 ∧ ∃ τ' : St, τ'.length = T.length ∧ σ2 = τ' ++ σ := by
        funext σ2 H2
        refine propext ⟨fun ⟨a, b, c⟩ => ⟨a, σ2.take T.length, by rw [List.length_take]; omega, by rw [← c, List.take_append_drop]⟩, fun ⟨a, τ', b, c⟩ => ⟨a, by rw [c, List.length_append, b], by rw [c, ← b, List.drop_left]⟩⟩
      rw [e]; exact this)
  · intro D C s' H' acc m hD hC hne hn hHC hHD Ib fin
    refine ⟨m, hn, fun h' hs' => ⟨.ref D, _, ?_, rfl, fin D hHD⟩⟩
    exact Ib.turned (t' := s'.toks) (it := C) (fun b o hb e => (hs'.2 b hb).trans e) (by rw [upd_ne hne]; exact hHC) (Nat.ne_of_gt (Nat.lt_of_lt_of_le I2.lt hC)) (.inr (Nat.le_trans I2.sz hC)) (fun x c e z => by
      obtain ⟨v, q⟩ := I2.cell x c e
      exact absurd (Nat.lt_of_lt_of_le q.lt (by rw [z]; exact hC)) (Nat.lt_irrefl _)) (fun p hp z => absurd (Nat.lt_of_lt_of_le (Heap.lt_size (I2.pin p hp).1) (by rw [z]; exact hC)) (Nat.lt_irrefl _))
end
end L2

namespace L2
open PySem PySem.Spec PyProof.Rows PySem.W
mutual
def Imm : PyData → Bool
  | .none => true
  | .bool _ => true
  | .int _ => true
  | .str _ => true
  | .tuple ds => ImmAll ds
  | .list _ => false
  | .dict _ => false
def ImmAll : List PyData → Bool
  | [] => true
  | d :: ds => Imm d && ImmAll ds
end
theorem immAll_iff : ∀ {ds : List PyData}, ImmAll ds = true ↔ ∀ d ∈ ds, Imm d = true
  | [] => by simp [ImmAll]
  | d :: ds => by simp [ImmAll, immAll_iff (ds := ds)]
theorem immAll_map {α : Type} {f : α → PyData} (h : ∀ x, Imm (f x) = true) (xs : List α) : ImmAll (xs.map f) = true := by
  rw [immAll_iff]
  intro d hd
  obtain ⟨x, _, rfl⟩ := List.mem_map.mp hd
  exact h x
structure Mv (S : List Addr) (H H' : Hp) : Prop where
  kp : ∀ a o, a ∉ S → H a = some o → H' a = some o
  tp : ∀ a xs, H a = some (.tup xs) → H' a = some (.tup xs)
  dm : ∀ a, H' a = none → H a = none
theorem Mv.refl {S : List Addr} {H : Hp} : Mv S H H := ⟨fun _ _ _ h => h, fun _ _ h => h, fun _ h => h⟩
theorem Same.mv {S : List Addr} {H H' : Hp} (s : Same H H') : Mv S H H' := ⟨fun a o _ h => s a o h, fun a xs h => s a _ h, fun a h => by
  cases e : H a with
  | none => rfl
  | some o => rw [s a o e] at h; cases h⟩
theorem Mv.trans {S : List Addr} {H H1 H2 : Hp} (m : Mv S H H1) (m2 : Mv S H1 H2) : Mv S H H2 := ⟨fun a o n h => m2.kp a o n (m.kp a o n h), fun a xs h => m2.tp a xs (m.tp a xs h), fun a h => m.dm a (m2.dm a h)⟩
theorem Mv.step {S S1 : List Addr} {H H1 H2 : Hp} (m : Mv S H H1) (m2 : Mv S1 H1 H2) (hs : ∀ a ∈ S1, a ∈ S ∨ H a = none) : Mv S H H2 := by
  refine ⟨fun a o n h => ?_, fun a xs h => m2.tp a xs (m.tp a xs h), fun a h => m.dm a (m2.dm a h)⟩
  refine m2.kp a o (fun z => ?_) (m.kp a o n h)
  rcases hs a z with q | q
  · exact n q
  · rw [q] at h; cases h
theorem Mv.stepS {S : List Addr} {H H1 H2 : Hp} (m : Mv S H H1) (s : Same H1 H2) : Mv S H H2 := m.trans s.mv
theorem Mv.at {S : List Addr} {H H' : Hp} {a : Addr} {o : HO} (m : Mv S H H') (n : a ∉ S) (h : H a = some o) : H' a = some o := m.kp a o n h
theorem Mv.none {S : List Addr} {H H' : Hp} {a : Addr} (m : Mv S H H') (h : H' a = none) : H a = none := m.dm a h
theorem Same.none {H H' : Hp} {a : Addr} (m : Same H H') (h : H' a = none) : H a = none := (m.mv (S := [])).dm a h
theorem Mv.of_upd {H : Hp} {p : Addr} {o u : HO} (h : H p = some u) (nt : ∀ xs, u ≠ .tup xs) : Mv [p] H (upd H p o) := ⟨fun a v n e => by
  rw [upd_ne (fun z => n (by simp [z]))]; exact e, fun a xs e => by
  rw [upd_ne (fun z => by subst z; rw [h] at e; exact nt xs (Option.some.inj e))]; exact e, fun a e => by
  by_cases z : a = p
  · subst z; rw [upd_same] at e; cases e
  · rw [upd_ne z] at e; exact e⟩
mutual
theorem Dv.imm {H H' : Hp} (t : ∀ a xs, H a = some (.tup xs) → H' a = some (.tup xs)) : ∀ {v : V} {d : PyData}, Dv H v d → Imm d = true → Dv H' v d
  | _, _, .non, _ => .non
  | _, _, .bl b, _ => .bl b
  | _, _, .int i, _ => .int i
  | _, _, .str x, _ => .str x
  | _, _, .tup h r, c => .tup (t _ _ h) (Dvs.imm t r (by simpa [Imm] using c))
  | _, _, .lst h r, c => by simp [Imm] at c
  | _, _, .dct h r, c => by simp [Imm] at c
theorem Dvs.imm {H H' : Hp} (t : ∀ a xs, H a = some (.tup xs) → H' a = some (.tup xs)) : ∀ {v : List V} {d : List PyData}, Dvs H v d → ImmAll d = true → Dvs H' v d
  | _, _, .nil, _ => .nil
  | _, _, .cons h r, c => by
    have c' := c
    simp only [ImmAll, Bool.and_eq_true] at c'
    exact .cons (Dv.imm t h c'.1) (Dvs.imm t r c'.2)
end
theorem Mv.dat {S : List Addr} {H H' : Hp} {v : V} {d : PyData} (m : Mv S H H') (i : Imm d = true) (h : Dv H v d) : Dv H' v d := h.imm m.tp i
theorem Mv.dats {S : List Addr} {H H' : Hp} {v : List V} {d : List PyData} (m : Mv S H H') (i : ImmAll d = true) (h : Dvs H v d) : Dvs H' v d := h.imm m.tp i
def LAt (H : Hp) (p : Addr) (ds : List PyData) : Prop := ∃ xs, H p = some (.lst xs) ∧ Dvs H xs ds ∧ ImmAll ds = true
theorem LAt.dv {H : Hp} {p : Addr} {ds : List PyData} (h : LAt H p ds) : Dv H (.ref p) (.list ds) := let ⟨_, e, d, _⟩ := h; .lst (.of e) d
theorem LAt.keeps {H H' : Hp} {p : Addr} {ds : List PyData} (s : Same H H') (h : LAt H p ds) : LAt H' p ds := let ⟨xs, e, d, i⟩ := h; ⟨xs, s _ _ e, d.keeps s, i⟩
theorem LAt.mv {S : List Addr} {H H' : Hp} {p : Addr} {ds : List PyData} (m : Mv S H H') (n : p ∉ S) (h : LAt H p ds) : LAt H' p ds := let ⟨xs, e, d, i⟩ := h; ⟨xs, m.at n e, m.dats i d, i⟩
theorem lat_upd {H : Hp} {p : Addr} {xs : List V} {ds : List PyData} (hn : H p = none) (d : Dvs H xs ds) (i : ImmAll ds = true) : LAt (upd H p (.lst xs)) p ds := ⟨xs, upd_same, d.keeps (same_upd hn), i⟩
theorem small {n m : Nat} (h : n ≤ m) (hm : m ≤ 4000 := by decide) : n ≤ sizeLine := Nat.le_trans h (Nat.le_trans hm (by decide))
theorem smaller {n : Nat} (h : n ≤ 4000) : n < sizeLine := Nat.lt_of_le_of_lt h (by decide)
section
variable {σ : St} {H : Hp} {Q : VK} {D : Ends} {K : PySem.W.Frag} {p : Addr} {ds : List PyData}
theorem r_bm {T : String} {r : V → List V → Hp → VK → Prop} {to : TE} {t : TA} (h : to σ H fun x H1 => tyV K T x H1 ∧ t σ H1 fun xs H2 => r x xs H2 Q) : tBM K T r to t σ H Q := h
theorem r_bm0 {T : String} {r : V → List V → Hp → VK → Prop} {to : TE} (h : to σ H fun x H1 => tyV K T x H1 ∧ r x [] H1 Q) : tBM0 K T r to σ H Q := h
theorem r_tyL {R : Prop} (hp : LAt H p ds) (h : R) : tyV K "list" (.ref p) H ∧ R := let ⟨xs, e, _, _⟩ := hp; ⟨.inl ⟨rfl, xs, SqL.of e⟩, h⟩
theorem r_clr (hp : LAt H p ds) (h : ∀ H2, Mv [p] H H2 → LAt H2 p [] → Q .non H2) : rClear (.ref p) [] H Q := by
  obtain ⟨xs, e, dv, i⟩ := hp
  have m : Mv [p] H (upd H p (.lst [])) := .of_upd e (by intro _ z; cases z)
  exact ⟨p, xs, rfl, rfl, e, h _ m ⟨_, upd_same, .nil, rfl⟩⟩
theorem r_lstA {xs : List V} (hl : xs.length ≤ sizeLine) (hd : Dvs H xs ds) (hi : ImmAll ds = true) (k : ∀ p H2, Same H H2 → H p = none → LAt H2 p ds → Q (.ref p) H2) : LstP xs H Q :=
  ⟨hl, ds, hd, fun p H2 s n e d _ => k p H2 s n ⟨xs, e, d, hi⟩⟩
end
end L2

namespace L2
open PySem PySem.Spec PyProof.Rows PySem.W
mutual
theorem Dv.fn {H : Hp} : ∀ {v : V} {d e : PyData}, Dv H v d → Dv H v e → Imm d = true → d = e
  | _, _, _, .non, h, _ => by cases h; rfl
  | _, _, _, .bl b, h, _ => by cases h; rfl
  | _, _, _, .int i, h, _ => by cases h; rfl
  | _, _, _, .str x, h, _ => by cases h; rfl
  | _, _, _, .tup h r, h2, c => by
    cases h2 with
    | tup h' r' =>
      have c' := (by simpa [Imm] using c : ImmAll _ = true)
      rw [h] at h'
      cases h'
      rw [Dvs.fn r r' c']
    | lst h' r' =>
      rcases h' with h' | ⟨o, h'⟩ <;> rw [h] at h' <;> cases h'
    | dct h' r' => rw [h] at h'; cases h'
  | _, _, _, .lst h r, _, c => by simp [Imm] at c
  | _, _, _, .dct h r, _, c => by simp [Imm] at c
theorem Dvs.fn {H : Hp} : ∀ {v : List V} {d e : List PyData}, Dvs H v d → Dvs H v e → ImmAll d = true → d = e
  | _, _, _, .nil, h, _ => by cases h; rfl
  | _, _, _, .cons h r, h2, c => by
    have c' := c
    simp only [ImmAll, Bool.and_eq_true] at c'
    cases h2 with
    | cons h' r' => rw [Dv.fn h h' c'.1, Dvs.fn r r' c'.2]
end
theorem Dvs.perm {α : Type} {H : Hp} {g : α → PyData} {xs ys : List V} (p0 : ys.Perm xs) : ∀ {cs : List α}, Dvs H xs (cs.map g) → ∃ cs' : List α, cs'.Perm cs ∧ Dvs H ys (cs'.map g) := by
  have p := p0.symm
  clear p0
  induction p with
  | nil => intro cs h; exact ⟨cs, .refl _, h⟩
  | cons x _ ih =>
    intro cs h
    cases cs with
    | nil => cases h
    | cons c cs =>
      cases h with
      | cons h r =>
        obtain ⟨cs', p', h'⟩ := ih r
        exact ⟨c :: cs', p'.cons c, .cons h h'⟩
  | swap x y l =>
    intro cs h
    cases cs with
    | nil => cases h
    | cons c cs =>
      cases h with
      | cons h r =>
        cases cs with
        | nil => cases r
        | cons c2 cs =>
          cases r with
          | cons h2 r => exact ⟨c2 :: c :: cs, .swap c c2 cs, .cons h2 (.cons h r)⟩
  | trans _ _ ih1 ih2 =>
    intro cs h
    obtain ⟨c1, p1, h1⟩ := ih1 h
    obtain ⟨c2, p2, h2⟩ := ih2 h1
    exact ⟨c2, p2.trans p1, h2⟩
theorem Dvs.pairwise {α β : Type} {H : Hp} {g : α → PyData} {key : α → β} {kf : V → β} {R : β → β → Prop} (hk : ∀ v c, Dv H v (g c) → kf v = key c) : ∀ {xs : List V} {cs : List α}, Dvs H xs (cs.map g) → xs.Pairwise (fun x y => R (kf x) (kf y)) → cs.Pairwise (fun c d => R (key c) (key d))
  | _, [], .nil, _ => .nil
  | _, c :: cs, .cons h r, p => by
    rw [List.pairwise_cons] at p ⊢
    refine ⟨fun d hd => ?_, Dvs.pairwise hk r p.2⟩
    obtain ⟨i, hi⟩ := List.getElem?_of_mem hd
    obtain ⟨x, hx, hv⟩ := r.get (i := i) (d := g d) (by rw [List.getElem?_map, hi]; rfl)
    have := p.1 x (List.mem_of_getElem? hx)
    rw [hk _ _ h, hk _ _ hv] at this
    exact this
theorem Dv.lst_inv {H : Hp} {v : V} {ds : List PyData} (h : Dv H v (.list ds)) : ∃ a xs, v = .ref a ∧ (∀ K : PySem.W.Frag, SqL K H a xs) ∧ Dvs H xs ds := by
  cases h with
  | lst h r => exact ⟨_, _, rfl, fun _ => .inl h, r⟩
section
variable {σ : St} {H : Hp} {Q : VK} {D : Ends} {K : PySem.W.Frag} {p : Addr} {v : V} {ds : List PyData}
def LCT (te : TE) (N : Option V → Hp → Prop) (σ2 : St) (b : Bool) (H3 : Hp) : Prop := if b = true then te σ2 H3 (fun y H4 => N (some y) H4) else N none H3
theorem r_lcT {k : Nat} {tl : TE} {g : TG} {tc : TT} {te : TE} (h : tl σ H fun x H1 => ∃ a, x = .ref a ∧ (∃ xs, SqL K H1 a xs) ∧ LCW k g tc te (LCFin Q) σ (Itl K a) H1) : tLC k (iList K tl) g tc te σ H Q := h
theorem r_lc {k : Nat} {g : TG} {tc : TT} {te : TE} {α : Type} {cs : List α} {gd : α → PyData} (pf : α → Bool) (fd : α → PyData) (hl : Dv H v (.list (cs.map gd))) (hlen : cs.length ≤ 4000) (hi : ∀ c, Imm (fd c) = true)
    (turn : ∀ x c H' (N : Option V → Hp → Prop), c ∈ cs → Same H H' → Dv H' x (gd c) → (pf c = true → ∀ y H4, Same H' H4 → Dv H4 y (fd c) → N (some y) H4) → (pf c = false → ∀ H3, Same H' H3 → N none H3) →
      g x (List.replicate k none ++ σ) H' fun σ2 H2 => tc σ2 H2 fun b H3 => LCT te N σ2 b H3)
    (kk : ∀ q H', Same H H' → H q = none → LAt H' q ((cs.filter pf).map fd) → Q (.ref q) H') : ∃ a, v = .ref a ∧ (∃ xs, SqL K H a xs) ∧ LCW k g tc te (LCFin Q) σ (Itl K a) H := by
  obtain ⟨p, xs, rfl, e, dv⟩ := hl.lst_inv
  have hl0 : SqL K H p xs := e K
  have hxl : xs.length = cs.length := by rw [dv.length, List.length_map]
  refine ⟨p, rfl, ⟨xs, hl0⟩, fun i m acc H' => i ≤ cs.length ∧ m = cs.length - i ∧ Same H H' ∧ Dvs H' acc (((cs.take i).filter pf).map fd), ⟨cs.length, Nat.zero_le _, rfl, Same.refl _, by simpa using Dvs.nil⟩, ?_⟩
  rintro i m acc H' ⟨hi1, hm, sm, hacc⟩
  have hl' : SqL K H' p xs := Same.seq sm hl0
  have hal : acc.length ≤ cs.length := by
    rw [hacc.length, List.length_map]
    exact Nat.le_trans (List.length_filter_le _ _) (by rw [List.length_take]; omega)
  by_cases hc : i = cs.length
  · left
    refine ⟨⟨xs, hl', by omega⟩, fun q hq => ?_⟩
    rw [hc, List.take_length] at hacc
    have sm2 : Same H (upd H' q (.lst acc)) := sm.trans (same_upd hq)
    exact kk q _ sm2 (sm.none hq) ⟨acc, upd_same, hacc.keeps (same_upd hq), immAll_map hi _⟩
  · right
    have hlt : i < cs.length := by omega
    have hlx : i < xs.length := by omega
    refine ⟨⟨xs, xs[i], hl', List.getElem?_eq_getElem hlx⟩, smaller (by omega), fun x H2 hy => ?_⟩
    obtain ⟨rfl, hy⟩ := hy
    have hx := hy xs hl'
    have hcs : cs[i]? = some cs[i] := List.getElem?_eq_getElem hlt
    obtain ⟨x', hx', hd⟩ := dv.get (i := i) (d := gd cs[i]) (by rw [List.getElem?_map, hcs]; rfl)
    rw [hx] at hx'
    cases hx'
    have htk : cs.take (i + 1) = cs.take i ++ [cs[i]] := by rw [List.take_add_one, hcs]; rfl
    exact turn x cs[i] H2 (fun o H4 => match o with | some y => ∃ m', m' < m ∧ i + 1 ≤ cs.length ∧ m' = cs.length - (i + 1) ∧ Same H H4 ∧ Dvs H4 (acc ++ [y]) (((cs.take (i + 1)).filter pf).map fd) | none => ∃ m', m' < m ∧ i + 1 ≤ cs.length ∧ m' = cs.length - (i + 1) ∧ Same H H4 ∧ Dvs H4 acc (((cs.take (i + 1)).filter pf).map fd))
      (List.getElem_mem hlt) sm (hd.keeps sm)
      (fun hp y H4 s4 d4 => ⟨cs.length - (i + 1), by omega, hlt, rfl, sm.trans s4, by
        rw [htk, List.filter_append, List.map_append]
        simp only [List.filter_cons, hp, if_true, List.filter_nil, List.map_cons, List.map_nil]
        exact Dvs.append (hacc.keeps s4) (.cons d4 .nil)⟩)
      (fun hp H3 s3 => ⟨cs.length - (i + 1), by omega, hlt, rfl, sm.trans s3, by
        rw [htk, List.filter_append, List.map_append]
        simp only [List.filter_cons, hp, Bool.false_eq_true, if_false, List.filter_nil, List.map_nil, List.append_nil]
        exact hacc.keeps s3⟩)
end
end L2
namespace L2
open PySem PySem.Spec PyProof.Rows PySem.W
def lcCheck (scope sc : Scope) (N M : List Str) : Bool :=
  (scope.kind == .function) && scope.names.all (fun y => y.2 != .cell) && scope.names.all (fun y => y.2 != .local || scope.names.lookup y.1 == some .local) &&
    scope.names.all (fun y => y.2 != .free || (sc.names.lookup y.1 == some .cell || sc.names.lookup y.1 == some .free)) && (M.length == N.length) &&
    (M.zip N).all fun p => (p.1 == p.2 && scope.names.lookup p.1 == some .free) || scope.names.lookup p.1 == none
theorem lcn {X : Cx} {T M : List Str} {scope : Scope} (sc : Scope) (N : List Str) (hs : X.env.scope = sc) (hN : X.N = N) (h : lcCheck scope sc N M = true) : LCNames X T M scope := by
  unfold lcCheck at h
  simp only [Bool.and_eq_true, List.all_eq_true, Bool.or_eq_true, bne_iff_ne, beq_iff_eq, ne_eq] at h
  obtain ⟨⟨⟨⟨⟨h1, h2⟩, h3⟩, h4⟩, h5⟩, h6⟩ := h
  refine ⟨h1, h2, fun y hy e => ?_, fun y hy e => ?_, by rw [hN]; exact h5, fun i x hx => ?_⟩
  · rcases h3 y hy with z | z
    · exact absurd e z
    · exact z
  · rw [hs]
    rcases h4 y hy with z | z
    · exact absurd e z
    · exact z
  · have hi : i < M.length := (List.getElem?_eq_some_iff.mp hx).1
    have hiN : i < N.length := by omega
    have hz : (M.zip N)[i]? = some (x, N[i]) := by
      rw [List.getElem?_zip_eq_some]
      exact ⟨hx, List.getElem?_eq_getElem hiN⟩
    rcases h6 _ (List.mem_of_getElem? hz) with ⟨a, b⟩ | a
    · left
      refine ⟨?_, b⟩
      rw [hN, List.getElem?_eq_getElem hiN]
      have a' : x = N[i] := a
      rw [a']
    · exact .inr a
section
variable {σ : St} {H : Hp} {Q : VK} {D : Ends} {K : PySem.W.Frag} {p : Addr} {v : V} {ds : List PyData}
theorem r_ixSt {z : Str} {i : Int} {c : Nat} (hl : z.length ≤ sizeLine) (hi : atI z.cps.toList i = some c) (h : Q (.str ⟨#[c]⟩) H) : rIxK K (.str z) (.int i) H Q := .inl (.inr ⟨z, i, c, rfl, rfl, hl, hi, h⟩)
def rAddS : R2 := fun x y H Q => ∃ i j, x = .str i ∧ y = .str j ∧ i.length + j.length ≤ sizeLine ∧ Q (.str (i ++ j)) H
theorem op_addS {X : Cx} : OpR X (binaryOp .Add) rAddS := op_add_str
theorem r_addS {i j : Str} (hl : i.length + j.length ≤ 4000) (h : Q (.str (i ++ j)) H) : rAddS (.str i) (.str j) H Q := ⟨i, j, rfl, rfl, small hl, h⟩
def rListOf (K : PySem.W.Frag) : List V → Hp → VK → Prop := fun xs H Q => ∃ p ys, xs = [.ref p] ∧ (SqL K H p ys ∨ SqT K H p ys) ∧ ∀ l, H l = none → Q (.ref l) (upd H l (.lst ys))
theorem cut_nat (xs : List V) (i j : Nat) : cutV xs (some (i : Int)) (some (j : Int)) = (xs.drop i).take (j - i) := by
  unfold cutV
  rw [HT.sIx_nat, HT.sIx_nat]
  by_cases h : i ≤ xs.length
  · rw [Nat.min_eq_left h]
    by_cases h2 : j ≤ xs.length
    · rw [Nat.min_eq_left h2]
    · rw [Nat.min_eq_right (by omega)]
      rw [List.take_of_length_le (by rw [List.length_drop]; omega), List.take_of_length_le (by rw [List.length_drop]; omega)]
  · rw [List.drop_of_length_le (show xs.length ≤ min i xs.length by omega), List.drop_of_length_le (show xs.length ≤ i by omega), List.take_nil, List.take_nil]
theorem r_sl {te : TE} {tl th : TO} {r : V → Option Int → Option Int → Hp → VK → Prop} (h : te σ H fun x H1 => tl σ H1 fun l H2 => th σ H2 fun u H3 => r x l u H3 Q) : tSl r te tl th σ H Q := h
theorem r_part {t : TE} {R : Option Int → Hp → Prop} (h : t σ H fun x H1 => ∃ i, x = .int i ∧ R (some i) H1) : tPart t σ H R := h
theorem r_partI {i : Int} {R : Int → Prop} (h : R i) : ∃ j, V.int i = .int j ∧ R j := ⟨i, rfl, h⟩
theorem r_cutN {ns : List Int} (i j : Nat) (hp : SqL K H p (ns.map V.int)) (k : ∀ q H', Same H H' → H q = none → LAt H' q (((ns.drop i).take (j - i)).map PyData.int) → Q (.ref q) H') : rSlL K (.ref p) (some (i : Int)) (some (j : Int)) H Q := by
  refine ⟨p, _, rfl, hp, fun q hq => ?_⟩
  rw [cut_nat, ← List.map_drop, ← List.map_take]
  exact k q _ (same_upd hq) hq ⟨_, upd_same, Dvs.ints _, immAll_map (fun _ => rfl) _⟩
def Unp3 (K : PySem.W.Frag) (x : V) (i j l : Nat) (R : St → Hp → Prop) (σ : St) (H : Hp) : Prop := gTup K 3 (gCons (gName i) (gCons (gName j) (gCons (gName l) gNil))) x σ H R
theorem r_unp3 {x : V} {i j l : Nat} {d1 d2 d3 : PyData} {R : St → Hp → Prop} (hd : Dv H x (.tuple [d1, d2, d3])) (h : ∀ v1 v2 v3, Dv H v1 d1 → Dv H v2 d2 → Dv H v3 d3 → R (((σ.set i (some v1)).set j (some v2)).set l (some v3)) H) :
    gTup K 3 (gCons (gName i) (gCons (gName j) (gCons (gName l) gNil))) x σ H R := by
  cases hd with
  | tup ha r =>
    cases r with
    | cons h1 r =>
      cases r with
      | cons h2 r =>
        cases r with
        | cons h3 r =>
          cases r
          exact ⟨_, _, rfl, .of ha, rfl, _, _, rfl, _, _, rfl, _, _, rfl, rfl, h _ _ _ h1 h2 h3⟩
theorem forD {α : Type} {cs : List α} {gd : α → PyData} {g : TG} {tb : TS} (hl : Dv H v (.list (cs.map gd))) (Pv : Nat → St → Hp → Prop) (h0 : Pv 0 σ H) (hk : ∀ i σ H', i ≤ cs.length → Pv i σ H' → ∀ a xs, v = .ref a → SqL K H a xs → SqL K H' a xs)
    (hs : ∀ i c x σ H', cs[i]? = some c → Pv i σ H' → (Imm (gd c) = true → (∀ a xs, H a = some (.tup xs) → H' a = some (.tup xs)) → Dv H' x (gd c)) → (Same H H' → Dv H' x (gd c)) → g x σ H' fun σ2 H2 => tb { D with nx := Pv (i + 1), ct := Pv (i + 1), bk := D.nx } σ2 H2) (hd : ∀ σ H', Pv cs.length σ H' → D.nx σ H') : ForL K v g tb D σ H := by
  obtain ⟨p, xs, rfl, e, dv⟩ := hl.lst_inv
  have hxl : xs.length = cs.length := by rw [dv.length, List.length_map]
  refine forL (e K) Pv h0 (fun i σ H' hi hp => hk i σ H' (by omega) hp p xs rfl (e K)) (fun i x σ H' hx hp => ?_) (fun σ H' hp => hd σ H' (by rw [← hxl]; exact hp))
  have hi : i < cs.length := by have := (List.getElem?_eq_some_iff.mp hx).1; omega
  obtain ⟨x', hx', hd'⟩ := dv.get (i := i) (d := gd cs[i]) (by rw [List.getElem?_map, List.getElem?_eq_getElem hi]; rfl)
  rw [hx] at hx'
  cases hx'
  exact hs i cs[i] x σ H' (List.getElem?_eq_getElem hi) hp (fun im t => hd'.imm t im) (fun s => hd'.keeps s)
end
end L2
namespace L2
end L2
namespace L2
open PySem
theorem atI_mapI {α β : Type} [Inhabited α] {f : α → β} {xs : List α} {i : Int} (h0 : 0 ≤ i) (h1 : i < xs.length) : atI (xs.map f) i = some (f (xs.getD i.toNat default)) := by
  obtain ⟨m, rfl⟩ := Int.eq_ofNat_of_zero_le h0
  have hm : m < xs.length := by omega
  refine atI_nat ?_
  rw [List.getElem?_map, List.getElem?_eq_getElem hm]
  simp [hm]
end L2
namespace L2
open PySem
theorem r_lenM {α : Type} {g : α → PyData} {xs : List α} {K : PySem.W.Frag} {H : Hp} {Q : VK} {v : V} (hs : Dv H v (.list (xs.map g))) (h : Q (.int (xs.length : Nat)) H) : rLenK K [v] H Q := r_lenK (.inr hs) (by rw [List.length_map]; exact h)
end L2
namespace L2
open PySem
theorem r_gname {i : Nat} {v : V} {σ : St} {H : Hp} {R : St → Hp → Prop} (h : R (σ.set i (some v)) H) : gName i v σ H R := h
end L2
namespace L2
open PySem
theorem Mv.sq {K : PySem.W.Frag} {S : List Addr} {H H' : Hp} {a : Addr} {xs : List V} (m : Mv S H H') (n : a ∉ S) (h : SqL K H a xs) : SqL K H' a xs := by
  rcases h with (h | ⟨o, h⟩) | h
  · exact .inl (.inl (m.at n h))
  · exact .inl (.inr ⟨o, m.at n h⟩)
  · exact .inr h
end L2
namespace L2
open PySem
theorem r_lct {te : TE} {N : Option V → Hp → Prop} {σ2 : St} {b : Bool} {H3 : Hp} (h1 : b = true → te σ2 H3 (fun y H4 => N (some y) H4)) (h2 : b = false → N none H3) : LCT te N σ2 b H3 := by
  unfold LCT
  cases b with
  | true => rw [if_pos rfl]; exact h1 rfl
  | false => rw [if_neg (by simp)]; exact h2 rfl
end L2
namespace L2
open PySem PySem.Spec PyProof.Rows
section
variable {X : Cx} {K : PySem.W.Frag} {a b e : Expr} {es : List Expr} {ta : TE} {pos : Pos}
theorem op_eqK (h : X.K = K) (hu : X.A.units + 8 < cLine) : OpR X (compareOp .Eq) (rEqA K id) := by rw [← h]; exact op_eqA hu
theorem pg_tupK {k : Nat} {t : TGs} {n : Nat} (h : X.K = K) (hc : X.calm = true) (hs : PGs X es t) (hn : (assignEach es X.env).length = n := by rfl) (hst : (assignEach es X.env).findIdx? (·.1) = none := by rfl) : PG X (.Tuple es k pos) (gTup K n t) := by rw [← h]; exact pg_tup hc hs hn hst
theorem pe_fldK {f : Str} (h : X.K = K) (ha : PE X a ta) (hb : attributeBase a f X.env (eval a X.env) = eval a X.env := by rfl) : PE X (.Attribute a f pos) (tFld K ta f) := by rw [← h]; exact pe_fld ha hb
end
end L2

namespace L2
open PySem PySem.Spec PyProof.Rows PySem.W
inductive DKs (H : Hp) : List (Key × V) → List (Str × PyData) → Prop where
  | nil : DKs H [] []
  | cons {k : Str} {v : V} {d : PyData} {kvs : List (Key × V)} {m : List (Str × PyData)} (h : Dv H v d) (i : Imm d = true) (r : DKs H kvs m) : DKs H ((.inr k, v) :: kvs) ((k, d) :: m)
theorem DKs.imm {H H' : Hp} (t : ∀ a xs, H a = some (.tup xs) → H' a = some (.tup xs)) : ∀ {kvs : List (Key × V)} {m : List (Str × PyData)}, DKs H kvs m → DKs H' kvs m
  | _, _, .nil => .nil
  | _, _, .cons h i r => .cons (h.imm t i) i (DKs.imm t r)
theorem DKs.length {H : Hp} : ∀ {kvs : List (Key × V)} {m : List (Str × PyData)}, DKs H kvs m → kvs.length = m.length
  | _, _, .nil => rfl
  | _, _, .cons _ _ r => by simp [DKs.length r]
def lkp (m : List (Str × PyData)) (k : Str) : Option PyData := (m.find? fun kv => decide (kv.1 = k)).map (·.2)
def putD (m : List (Str × PyData)) (k : Str) (d : PyData) : List (Str × PyData) := if (m.any fun kv => decide (kv.1 = k)) = true then m.map (fun kv => if kv.1 = k then (kv.1, d) else kv) else m ++ [(k, d)]
def dropD (m : List (Str × PyData)) (k : Str) : List (Str × PyData) := m.filter fun kv => decide (kv.1 ≠ k)
theorem inr_iff {a b : Str} : ((Sum.inr a : Key) = Sum.inr b) = (a = b) := propext ⟨fun h => Sum.inr.inj h, fun h => by rw [h]⟩
theorem DKs.val {H : Hp} {k : Str} : ∀ {kvs : List (Key × V)} {m : List (Str × PyData)}, DKs H kvs m → (∀ d, lkp m k = some d → ∃ v, valV kvs (.inr k) = some v ∧ Dv H v d) ∧ (lkp m k = none → valV kvs (.inr k) = none)
  | _, _, .nil => ⟨fun d h => by simp [lkp] at h, fun _ => rfl⟩
  | _, _, .cons (k := j) h i r => by
    obtain ⟨h1, h2⟩ := DKs.val (k := k) r
    by_cases e : j = k
    · subst e
      refine ⟨fun d hd => ⟨_, valV_pos rfl, ?_⟩, fun hd => by simp [lkp] at hd⟩
      simp [lkp] at hd
      subst hd; exact h
    · have e' : (Sum.inr j : Key) ≠ .inr k := fun z => e (Sum.inr.inj z)
      have el : ∀ (d : PyData) (m : List (Str × PyData)), lkp ((j, d) :: m) k = lkp m k := fun d m => by simp [lkp, List.find?_cons, e]
      refine ⟨fun d hd => ?_, fun hd => ?_⟩
      · rw [el] at hd
        obtain ⟨v, hv, hd'⟩ := h1 d hd
        exact ⟨v, by rw [valV_neg e']; exact hv, hd'⟩
      · rw [el] at hd
        rw [valV_neg e']; exact h2 hd
theorem DKs.any {H : Hp} {k : Str} : ∀ {kvs : List (Key × V)} {m : List (Str × PyData)}, DKs H kvs m → (kvs.any fun kv => decide (kv.1 = .inr k)) = m.any fun kv => decide (kv.1 = k)
  | _, _, .nil => rfl
  | _, _, .cons h i r => by
    simp only [List.any_cons, DKs.any r, inr_iff]
theorem DKs.append {H : Hp} : ∀ {kvs kvs' : List (Key × V)} {m m' : List (Str × PyData)}, DKs H kvs m → DKs H kvs' m' → DKs H (kvs ++ kvs') (m ++ m')
  | _, _, _, _, .nil, s => s
  | _, _, _, _, .cons h i r, s => .cons h i (DKs.append r s)
theorem DKs.repl {H : Hp} {k : Str} {v : V} {d : PyData} (hv : Dv H v d) (hi : Imm d = true) : ∀ {kvs : List (Key × V)} {m : List (Str × PyData)}, DKs H kvs m → DKs H (kvs.map fun kv => if kv.1 = .inr k then (kv.1, v) else kv) (m.map fun kv => if kv.1 = k then (kv.1, d) else kv)
  | _, _, .nil => .nil
  | _, _, .cons (k := j) h i r => by
    rw [List.map_cons, List.map_cons]
    by_cases e : j = k
    · subst e
      rw [if_pos rfl, if_pos rfl]
      exact .cons hv hi (DKs.repl hv hi r)
    · rw [if_neg (fun z => e (Sum.inr.inj z)), if_neg e]
      exact .cons h i (DKs.repl hv hi r)
theorem DKs.put {H : Hp} {k : Str} {v : V} {d : PyData} {kvs : List (Key × V)} {m : List (Str × PyData)} (r : DKs H kvs m) (hv : Dv H v d) (hi : Imm d = true) : DKs H (putK kvs (.inr k) v) (putD m k d) := by
  unfold putK putD
  rw [r.any]
  by_cases h : (m.any fun kv => decide (kv.1 = k)) = true
  · rw [if_pos h, if_pos h]; exact r.repl hv hi
  · rw [if_neg h, if_neg h]; exact r.append (.cons hv hi .nil)
theorem DKs.drop {H : Hp} {k : Str} : ∀ {kvs : List (Key × V)} {m : List (Str × PyData)}, DKs H kvs m → DKs H (dropK kvs (.inr k)) (dropD m k)
  | _, _, .nil => .nil
  | _, _, .cons (k := j) h i r => by
    by_cases e : j = k
    · subst e
      have := DKs.drop (k := j) r
      simpa [dropK, dropD] using this
    · have := DKs.drop (k := k) r
      have e' : (Sum.inr j : Key) ≠ .inr k := fun z => e (Sum.inr.inj z)
      simp only [dropK, dropD, List.filter_cons] at this ⊢
      rw [if_pos (by simpa using e'), if_pos (by simpa using e)]
      exact .cons h i this
def DAt (H : Hp) (p : Addr) (m : List (Str × PyData)) : Prop := ∃ kvs, H p = some (.dK kvs) ∧ DKs H kvs m
theorem DAt.keeps {H H' : Hp} {p : Addr} {m : List (Str × PyData)} (s : Same H H') (h : DAt H p m) : DAt H' p m := let ⟨kvs, e, d⟩ := h; ⟨kvs, s _ _ e, d.imm fun a xs e => s _ _ e⟩
theorem DAt.mv {S : List Addr} {H H' : Hp} {p : Addr} {m : List (Str × PyData)} (v : Mv S H H') (n : p ∉ S) (h : DAt H p m) : DAt H' p m := let ⟨kvs, e, d⟩ := h; ⟨kvs, v.at n e, d.imm v.tp⟩
theorem DAt.ne {H : Hp} {p q : Addr} {m : List (Str × PyData)} (h : DAt H p m) (hn : H q = none) : p ≠ q := let ⟨_, e, _⟩ := h; ne_of_none e hn
section
variable {σ : St} {H : Hp} {Q : VK} {D : Ends} {K : PySem.W.Frag} {p : Addr} {m : List (Str × PyData)} {k : Str}
theorem r_dnew (h : ∀ p H2, Same H H2 → H p = none → DAt H2 p [] → Q (.ref p) H2) : tDNewK σ H Q := fun p hp => h p _ (same_upd hp) hp ⟨[], upd_same, .nil⟩
theorem r_dputT {td ty tv : TE} (h : tv σ H fun v H1 => td σ H1 fun x H2 => ty σ H2 fun y H3 => ∃ a H4, x = .ref a ∧ DPut H3 a y v H4 ∧ D.nx σ H4) : sDPut td ty tv D σ H := h
theorem r_dput {v : V} {d : PyData} {R : Hp → Prop} (hp : DAt H p m) (hl : m.length ≤ 4000) (hv : Dv H v d) (hi : Imm d = true) (h : ∀ H2, Mv [p] H H2 → DAt H2 p (putD m k d) → R H2) : ∃ a H4, V.ref p = .ref a ∧ DPut H a (.str k) v H4 ∧ R H4 := by
  obtain ⟨kvs, e, dk⟩ := hp
  have mv : Mv [p] H (upd H p (.dK (putK kvs (.inr k) v))) := .of_upd e (by intro _ z; cases z)
  exact ⟨p, _, rfl, DPut.k (k := .inr k) e (by rw [dk.length]; exact smaller hl), h _ mv ⟨_, upd_same, (dk.put hv hi).imm mv.tp⟩⟩
theorem r_dgetT {td ty : TE} (h : td σ H fun x H1 => ty σ H1 fun y H2 => ∃ a v, x = .ref a ∧ DGet H2 a y (some v) ∧ Q v H2) : tDGet td ty σ H Q := h
theorem r_dget {d : PyData} {R : V → Prop} (hp : DAt H p m) (hk : lkp m k = some d) (h : GotD H d fun v _ => R v) : ∃ a v, V.ref p = .ref a ∧ DGet H a (.str k) (some v) ∧ R v := by
  obtain ⟨kvs, e, dk⟩ := hp
  obtain ⟨v, hv, hd⟩ := (dk.val (k := k)).1 d hk
  exact ⟨p, v, rfl, by rw [← hv]; exact DGet.k (k := .inr k) e, h.use hd⟩
theorem r_dinT {td ty : TE} (h : ty σ H fun y H1 => td σ H1 fun x H2 => ∃ a o, x = .ref a ∧ DGet H2 a y o ∧ Q (.bl o.isSome) H2) : tDIn ty td σ H Q := h
theorem r_dninT {td ty : TE} (h : ty σ H fun y H1 => td σ H1 fun x H2 => ∃ a o, x = .ref a ∧ DGet H2 a y o ∧ Q (.bl (!o.isSome)) H2) : tDNotIn ty td σ H Q := h
theorem d_val (hp : DAt H p m) (k : Str) : ∃ o, DGet H p (.str k) o ∧ o.isSome = (lkp m k).isSome := by
  obtain ⟨kvs, e, dk⟩ := hp
  refine ⟨valV kvs (.inr k), DGet.k (k := .inr k) e, ?_⟩
  obtain ⟨h1, h2⟩ := dk.val (k := k)
  cases hl : lkp m k with
  | none => rw [h2 hl]; rfl
  | some d => obtain ⟨v, hv, _⟩ := h1 d hl; rw [hv]; rfl
theorem r_din {R : Option V → Prop} (hp : DAt H p m) (h : ∀ o : Option V, o.isSome = (lkp m k).isSome → R o) : ∃ a o, V.ref p = .ref a ∧ DGet H a (.str k) o ∧ R o := by
  obtain ⟨o, g, e⟩ := d_val hp k
  exact ⟨p, o, rfl, g, h o e⟩
def rLenD : List V → Hp → VK → Prop := fun xs H Q => ∃ a kvs, xs = [V.ref a] ∧ H a = some (.dK kvs) ∧ Q (.int kvs.length) H
def ow : Option Int → V | none => .non | some i => .int i
def owD : Option Int → PyData | none => .none | some i => .int i
end
end L2
namespace L2
theorem r_tB {t : TE} {σ : St} {H : Hp} {Q : Bool → Hp → Prop} (h : t σ H fun x H' => ∃ k, x = .bl k ∧ Q k H') : tB t σ H Q := h
end L2
namespace L2
open PySem
theorem forDB {Hb : Hp} {σ : St} {H : Hp} {D : Ends} {K : PySem.W.Frag} {v : V} {α : Type} {cs : List α} {gd : α → PyData} {g : TG} {tb : TS} (hl : Dv Hb v (.list (cs.map gd))) (Pv : Nat → St → Hp → Prop) (h0 : Pv 0 σ H) (hk : ∀ i σ H', i ≤ cs.length → Pv i σ H' → ∀ a xs, v = .ref a → SqL K Hb a xs → SqL K H' a xs)
    (hs : ∀ i c x σ H', cs[i]? = some c → Pv i σ H' → (Imm (gd c) = true → (∀ a xs, Hb a = some (.tup xs) → H' a = some (.tup xs)) → Dv H' x (gd c)) → (Same Hb H' → Dv H' x (gd c)) → g x σ H' fun σ2 H2 => tb { D with nx := Pv (i + 1), ct := Pv (i + 1), bk := D.nx } σ2 H2) (hd : ∀ σ H', Pv cs.length σ H' → D.nx σ H') : ForL K v g tb D σ H := by
  obtain ⟨p, xs, rfl, e, dv⟩ := hl.lst_inv
  have hxl : xs.length = cs.length := by rw [dv.length, List.length_map]
  refine forL (hk 0 σ H (Nat.zero_le _) h0 p xs rfl (e K)) Pv h0 (fun i σ H' hi hp => hk i σ H' (by omega) hp p xs rfl (e K)) (fun i x σ H' hx hp => ?_) (fun σ H' hp => hd σ H' (by rw [← hxl]; exact hp))
  have hi : i < cs.length := by have := (List.getElem?_eq_some_iff.mp hx).1; omega
  obtain ⟨x', hx', hd'⟩ := dv.get (i := i) (d := gd cs[i]) (by rw [List.getElem?_map, List.getElem?_eq_getElem hi]; rfl)
  rw [hx] at hx'
  cases hx'
  exact hs i cs[i] x σ H' (List.getElem?_eq_getElem hi) hp (fun im t => hd'.imm t im) (fun s => hd'.keeps s)
end L2
namespace L2
open PySem
end L2

namespace L2
open PySem PySem.Spec PyProof.Rows PySem.W
def Its (x : Str) : It := ⟨fun i _ => i < x.cps.size, fun i H v H' => H' = H ∧ ∃ c, x.cps[i]? = some c ∧ v = .str ⟨#[c]⟩, fun i _ => i = x.cps.size⟩
def iStr (tl : TE) : TI := fun σ H R => tl σ H fun v H1 => ∃ x, v = .str x ∧ R (Its x) H1
section
variable {X : Cx} {tg : Expr}
def rLeS : R2 := fun x y H Q => ∃ i j, x = .str i ∧ y = .str j ∧ Q (.bl (!ltS j i)) H
def rAll : List V → Hp → VK → Prop := fun xs H Q => ∃ (v : V) (bs : List Bool), xs = [v] ∧ Dv H v (.list (bs.map PyData.bool)) ∧ Q (.bl (bs.all id)) H
def rAny : List V → Hp → VK → Prop := fun xs H Q => ∃ (v : V) (bs : List Bool), xs = [v] ∧ Dv H v (.list (bs.map PyData.bool)) ∧ Q (.bl (bs.any id)) H
section
variable {σ : St} {H : Hp} {Q : VK} {D : Ends} {K : PySem.W.Frag}
def ForS (x : V) (g : TG) (tb : TS) (D : Ends) (σ : St) (H1 : Hp) : Prop := ∃ z, x = .str z ∧ ∃ W : Nat → Nat → St → Hp → Prop, (∃ m, W 0 m σ H1) ∧ ∀ i m σ H, W i m σ H →
      ((Its z).stop i H ∧ D.nx σ H) ∨ ((Its z).go i H ∧ ∃ N : St → Hp → Prop, (∀ σ' H', N σ' H' → ∃ m', m' < m ∧ W (i + 1) m' σ' H') ∧ ∀ x H', (Its z).yld i H x H' → g x σ H' fun σ2 H2 => tb { D with nx := N, ct := N, bk := D.nx } σ2 H2)
end
end
end L2
namespace L2
open PySem
section
variable {H : Hp} {Q : VK} {K : PySem.W.Frag}
def rNinS : R2 := fun x y H Q => ∃ i j, x = .str i ∧ y = .str j ∧ Q (.bl (!(!(Builtin.Str.occurrences j i 0 j.length 1).isEmpty))) H
def rInS' : R2 := fun x y H Q => ∃ i j, x = .str i ∧ y = .str j ∧ Q (.bl (!(Builtin.Str.occurrences j i 0 j.length 1).isEmpty)) H
end
end L2

namespace L2
open PySem PySem.Spec PyProof.Rows PySem.W
section
variable {X : Cx}
def rJoin : V → List V → Hp → VK → Prop := fun x vs H Q => ∃ (sep : Str) (v : V) (ss : List Str), x = .str sep ∧ vs = [v] ∧ Dv H v (.list (ss.map PyData.str)) ∧ (ss.map (·.length)).sum + ss.length * sep.length ≤ 16777216 ∧ Q (.str (Txt.join sep ss)) H
end
section
variable {σ : St} {H : Hp} {Q : VK} {D : Ends} {K : PySem.W.Frag} {p : Addr} {ds : List PyData}
end
end L2

namespace L2
open PySem PySem.Calls PyProof.Rows
section
variable {X : Cx} {e k : Expr} {te tk : TE} {pos p2 : Pos}
def rRevL (K : PySem.W.Frag) : V → V → Hp → VK → Prop := fun x y H Q => ∃ a xs, x = .ref a ∧ y = .int (-1) ∧ SqL K H a xs ∧ ∀ p, H p = none → Q (.ref p) (upd H p (.lst xs.reverse))
def tSlR (K : PySem.W.Frag) (te tk : TE) : TE := fun σ H Q => te σ H fun x H1 => tk σ H1 fun y H2 => rRevL K x y H2 Q
end
section
variable {X : Cx}
def rLtS : R2 := fun x y H Q => ∃ i j, x = .str i ∧ y = .str j ∧ Q (.bl (ltS i j)) H
end
section
variable {K : PySem.W.Frag} {σ : St} {H : Hp} {Q : VK} {p : Addr} {ds : List PyData}
end
end L2

namespace L2
open PySem PySem.Spec PyProof.Rows PySem.W
def rSlS : V → Option Int → Option Int → Hp → VK → Prop := fun x lo hi H Q => ∃ z : Str, x = .str z ∧ z.length ≤ 4000 ∧ ∀ y : Str, (∀ c ∈ y.cps.toList, c ∈ z.cps.toList) → y.length ≤ z.length → Q (.str y) H
section
variable {X : Cx}
def UpS (ss : List Str) : Prop := ss.Pairwise fun a b => ltS b a = false
def rSortS : List V → Hp → VK → Prop := fun xs H Q => ∃ (v : V) (ss : List Str), xs = [v] ∧ Dv H v (.list (ss.map PyData.str)) ∧ ss.length < 64 ∧ ∀ (q : Addr) (H' : Hp) (ss' : List Str), Same H H' → H q = none → ss'.Perm ss → UpS ss' → LAt H' q (ss'.map PyData.str) → Q (.ref q) H'
def rSumL : List V → Hp → VK → Prop := fun xs H Q => ∃ (v : V) (ns : List Int), xs = [v] ∧ Dv H v (.list (ns.map PyData.int)) ∧ Q (.int ns.sum) H
end
end L2
namespace L2
open PySem PySem.Spec PyProof.Rows PySem.W
section
variable {prog : Program} {w : World} {A : Around} {E : Value → Shared → Prop} {s : Shared} {it l : Addr} {its : Array Value}
end
section
variable {X : Cx} {e : Expr} {te : TE} {p p2 pos pos2 : Pos}
def rRevOf (K : PySem.W.Frag) : V → Hp → VK → Prop := fun x H Q => ∃ a xs, x = .ref a ∧ SqL K H a xs ∧ ∀ q, H q = none → Q (.ref q) (upd H q (.lst xs.reverse))
def tRevOf (K : PySem.W.Frag) (te : TE) : TE := fun σ H Q => te σ H fun x H1 => rRevOf K x H1 Q
end
section
variable {K : PySem.W.Frag} {σ : St} {H : Hp} {Q : VK} {p : Addr} {ds : List PyData} {v : V}
theorem r_ixN {ns : List Int} {i : Int} (hp : Dv H v (.list (ns.map PyData.int))) (h0 : 0 ≤ i) (h1 : i < ns.length) (h : ∀ n ∈ ns, Q (.int n) H) : rIxK K v (.int i) H Q := by
  obtain ⟨m, rfl⟩ := Int.eq_ofNat_of_zero_le h0
  have hi : m < ns.length := by omega
  have e : atI (ns.map PyData.int) (m : Int) = some (.int ns[m]) := atI_nat (by rw [List.getElem?_map, List.getElem?_eq_getElem hi]; rfl)
  exact r_ixD (.inr hp) e (got_int (h _ (List.getElem_mem hi)))
end
end L2

namespace L2
open PySem PySem.Spec PyProof.Rows PySem.W
section
variable {P : Program} {w : World} {H : Hp} {h : Heap} {d : Addr} {o : Obj} {kvs : List (Key × V)}
theorem HOk.frz (ok : HOk P w H h) (hd : H d = some (.dK kvs)) (ho : h.get? d = some o) : HOk P w (upd H d (.frz o (.dK kvs))) h := by
  intro b u q
  by_cases hb : b = d
  · subst hb
    rw [upd_same] at q
    cases q
    exact ⟨ho, ok b _ hd⟩
  · rw [upd_ne hb] at q
    refine (ok b u q).stay (fun c v _ r => r) (fun c r => ?_) fun c xs r => ?_
    · rw [upd_ne (ne_of r hd (by intro z; cases z))]; exact r
    · rw [upd_ne (ne_of r hd (by intro z; cases z))]; exact r
theorem HOk.thaw (ok : HOk P w H h) (hd : H d = some (.frz o (.dK kvs))) : HOk P w (upd H d (.dK kvs)) h := by
  intro b u q
  by_cases hb : b = d
  · subst hb
    rw [upd_same] at q
    cases q
    exact (ok b _ hd).2
  · rw [upd_ne hb] at q
    refine (ok b u q).stay (fun c v _ r => r) (fun c r => ?_) fun c xs r => ?_
    · rw [upd_ne (ne_of r hd (by intro z; cases z))]; exact r
    · rw [upd_ne (ne_of r hd (by intro z; cases z))]; exact r
end
section
variable {X : Cx} {pins : List (Addr × Obj)} {σ : St} {H : Hp} {s : Shared} {d : Addr} {o : Obj} {kvs : List (Key × V)}
theorem Inv.freeze (I : Inv X pins σ H s) (hd : H d = some (.dK kvs)) (ho : s.heap.get? d = some o) : Inv X pins σ (upd H d (.frz o (.dK kvs))) s := by
  have u : Un X.fs [] H (upd H d (.frz o (.dK kvs))) s.heap s.heap := {
    keep := fun b u e n _ _ => e
    slot := fun b u e n _ _ => ⟨u.slots, e⟩
    free := fun b u e n _ => by rw [upd_ne (Ne.symm (ne_of_none hd n))]; exact n
    there := fun b u e _ => ⟨u, e⟩
    tups := fun b xs e => by rw [upd_ne (ne_of e hd (by intro z; cases z))]; exact e
    frzs := fun b u v e => by rw [upd_ne (ne_of e hd (by intro z; cases z))]; exact e
    tbls := fun b ps e => ⟨#[], by rw [upd_ne (ne_of e hd (by intro z; cases z)), e]; simp⟩ }
  exact I.un (h' := s.heap) (t' := s.toks) u (I.hok.frz hd ho)
theorem Inv.thaw (I : Inv X pins σ H s) (hd : H d = some (.frz o (.dK kvs))) (h0 : ∀ u v, X.H₀ d ≠ some (.frz u v)) : Inv X pins σ (upd H d (.dK kvs)) s := by
  have nn : ∀ b, H b = none → upd H d (.dK kvs) b = none := fun b n => by rw [upd_ne (Ne.symm (ne_of_none hd n))]; exact n
  refine ⟨I.ok, I.os, I.bare, ⟨I.base.keep, I.base.slot, fun b u e n x => nn b (I.base.free b u e n x), I.base.there, fun b xs e => ?_, fun b u v e => ?_, fun b ps e => ?_⟩, I.loc, I.cell, nn _ I.free, fun x c e => nn c (I.freeC x c e), fun p hp => ?_, I.hok.thaw hd, I.len⟩
  · have z := I.base.tups b xs e
    rw [upd_ne (ne_of z hd (by intro q; cases q))]; exact z
  · have z := I.base.frzs b u v e
    have hb : b ≠ d := fun q => h0 u v (q ▸ e)
    rw [upd_ne hb]; exact z
  · obtain ⟨m, z⟩ := I.base.tbls b ps e
    exact ⟨m, by rw [upd_ne (ne_of z hd (by intro q; cases q))]; exact z⟩
  · obtain ⟨a1, a2, a3⟩ := I.pin p hp
    exact ⟨a1, nn _ a2, a3⟩
theorem Inv.noFrz (I : Inv X pins σ H s) (hd : H d = some (.dK kvs)) : ∀ u v, X.H₀ d ≠ some (.frz u v) := fun u v z => by
  have := I.base.frzs d u v z
  rw [hd] at this
  cases this
def tThaw (t : TE) : TE := fun σ H Q => ∃ d kvs, H d = some (.dK kvs) ∧ t σ H fun v H' => (∃ o, H' d = some (.frz o (.dK kvs))) ∧ Q v (upd H' d (.dK kvs))
theorem pe_thaw {e : Expr} {t : TE} (h : PE X e t) : PE X e (tThaw t) := by
  intro pins s σ H Q I ⟨d, kvs, hd, ht⟩
  have h0 := I.noFrz hd
  exact thn (h pins s σ H _ I ht) fun v s1 ⟨x, H1, I1, r, ⟨o, ho⟩, q⟩ => ⟨x, _, I1.thaw ho h0, r, q⟩
def thawP (d : Addr) (kvs : List (Key × V)) (R : Hp → Prop) : Hp → Prop := fun H' => (∃ o, H' d = some (.frz o (.dK kvs))) ∧ R (upd H' d (.dK kvs))
def thawD (d : Addr) (kvs : List (Key × V)) (D : Ends) : Ends := { nx := fun z => thawP d kvs (D.nx z), rt := fun z => thawP d kvs (D.rt z), bk := fun z => thawP d kvs (D.bk z), ct := fun z => thawP d kvs (D.ct z) }
def tThawS (t : TS) : TS := fun D σ H => ∃ d kvs, H d = some (.dK kvs) ∧ t (thawD d kvs D) σ H
end
def Itd (d : Addr) (o : Obj) (kvs : List (Key × V)) : It := ⟨fun i H => i < kvs.length ∧ H d = some (.frz o (.dK kvs)), fun i H v H' => H' = H ∧ ∃ kv, kvs[i]? = some kv ∧ v = kV kv.1, fun i H => i = kvs.length ∧ H d = some (.frz o (.dK kvs))⟩
theorem dict_at {P : Program} {w : World} {H : Hp} {h : Heap} {d : Addr} {o : Obj} {kvs : List (Key × V)} {es : Array DictEntry} {ep : Nat} (ok : HOk P w H h) (hd : H d = some (.frz o (.dK kvs))) (he : o.data = .dict es ep) : (d == sysModules) = false ∧ ∃ vs, KV kvs vs ∧ h.DictAt (mixKind P w) d vs ep := by
  obtain ⟨ho, _, hs, vs, kv, o2, es2, ep2, a1, a2, a3, a4⟩ := ok d _ hd
  rw [ho] at a1
  cases a1
  rw [he] at a3
  cases a3
  exact ⟨hs, vs, kv, _, _, ho, a2, he, a4⟩
theorem paired_get {α β : Type} {F : α → β → Prop} : ∀ {xs : List α} {ys : List β}, Paired F xs ys → ∀ {i : Nat} {x : α}, xs[i]? = some x → ∃ y, ys[i]? = some y ∧ F x y
  | _, _, .nil, i, x, h => by simp at h
  | _, _, .cons r t, 0, x, h => by
    have e := Option.some.inj h
    exact ⟨_, rfl, e ▸ r⟩
  | _, _, .cons r t, i + 1, x, h => by
    obtain ⟨y, e, q⟩ := paired_get t (i := i) (by simpa using h)
    exact ⟨y, by simpa using e, q⟩
theorem relV_key {k : Key} {v : Value} (h : keyIs k v = true) : RelV (kV k) v := by
  rcases keyIs_shape h with ⟨i, t, rfl, rfl⟩ | ⟨x, t, rfl, rfl⟩
  · exact ⟨t, rfl⟩
  · exact ⟨t, rfl⟩
def iDict (tl : TE) : TI := fun σ H R => tl σ H fun v H1 => ∃ d kvs, v = .ref d ∧ H1 d = some (.dK kvs) ∧ ∀ o, R (Itd d o kvs) (upd H1 d (.frz o (.dK kvs)))
end L2
namespace L2
open PySem PySem.Spec PyProof.Rows PySem.W
def DRd (H : Hp) (p : Addr) (m : List (Str × PyData)) : Prop := ∃ kvs, Rd H p (.dK kvs) ∧ DKs H kvs m
theorem DAt.rd {H : Hp} {p : Addr} {m : List (Str × PyData)} (h : DAt H p m) : DRd H p m := let ⟨kvs, e, d⟩ := h; ⟨kvs, .inl e, d⟩
theorem DKs.getK {H : Hp} : ∀ {kvs : List (Key × V)} {m : List (Str × PyData)}, DKs H kvs m → ∀ {i : Nat} {kv : Key × V}, kvs[i]? = some kv → ∃ k d, m[i]? = some (k, d) ∧ kv.1 = .inr k ∧ Dv H kv.2 d
  | _, _, .nil, i, kv, h => by simp at h
  | _, _, .cons (k := k) (d := d) hv _ r, 0, kv, h => by
    have e := (Option.some.inj h).symm
    subst e
    exact ⟨k, d, rfl, rfl, hv⟩
  | _, _, .cons _ _ r, i + 1, kv, h => by
    obtain ⟨k, d, e, q⟩ := DKs.getK r (i := i) (by simpa using h)
    exact ⟨k, d, by simpa using e, q⟩
section
variable {σ : St} {H : Hp} {Q : VK} {K : PySem.W.Frag} {p : Addr} {m : List (Str × PyData)} {k : Str}
end
end L2
namespace L2
open PySem PySem.Spec PyProof.Rows PySem.W
section
variable {X : Cx}
def mulS (i : Str) (n : Int) : Str := if n < 1 then Str.empty else if (n == 1 || i.length == 0) = true then i else ⟨(List.replicate n.toNat i.cps).foldl (· ++ ·) #[]⟩
def rMulS : R2 := fun x y H Q => ∃ i n, x = .str i ∧ y = .int n ∧ 0 ≤ n ∧ n ≤ 10 ∧ i.length ≤ 10 ∧ (mulS i n).length ≤ 4000 ∧ Q (.str (mulS i n)) H
def rDPop : V → List V → Hp → VK → Prop := fun x vs H Q => ∃ a kvs k v, x = .ref a ∧ vs = [kV k] ∧ H a = some (.dK kvs) ∧ valV kvs k = some v ∧ Q v (upd H a (.dK (dropK kvs k)))
theorem mt_dpop : MtM X "dict.pop" rDPop := by
  intro pins s σ H x vs v us Q I rx rv h
  obtain ⟨a, kvs, k, y, rfl, rfl, hH, hv, q⟩ := h
  cases rx
  obtain ⟨u, rfl, ru⟩ := rv.one
  exact d_pop I hH ru hv (.inl rfl) fun w' s' I' r => ⟨y, _, I', r, q⟩
end
section
variable {σ : St} {H : Hp} {Q : VK} {K : PySem.W.Frag} {p : Addr} {m : List (Str × PyData)} {k : Str}
theorem r_tyD {R : Prop} (hp : DAt H p m) (h : R) : tyV K "dict" (.ref p) H ∧ R := let ⟨kvs, e, _⟩ := hp; ⟨.inr (.inr (.inl ⟨rfl, .inl ⟨kvs, e⟩⟩)), h⟩
theorem r_dpop {d : PyData} (hp : DAt H p m) (hk : lkp m k = some d) (h : ∀ v H2, Mv [p] H H2 → DAt H2 p (dropD m k) → Q v H2) : rDPop (.ref p) [.str k] H Q := by
  obtain ⟨kvs, e, dk⟩ := hp
  obtain ⟨v, hv, hd⟩ := (dk.val (k := k)).1 d hk
  have mv : Mv [p] H (upd H p (.dK (dropK kvs (.inr k)))) := .of_upd e (by intro _ z; cases z)
  refine ⟨p, kvs, .inr k, v, rfl, rfl, e, hv, h v _ mv ⟨_, upd_same, dk.drop.imm mv.tp⟩⟩
end
section
variable {σ : St} {H : Hp} {Q : VK} {K : PySem.W.Frag} {p : Addr}
end
section
variable {X : Cx}
def BoolsD (m : List (Str × PyData)) : Prop := ∀ x ∈ m, ∃ b, x.2 = .bool b
def rEqDD : R2 := fun x y H Q => ∃ a b m, x = .ref a ∧ y = .ref b ∧ DAt H a m ∧ DAt H b m ∧ BoolsD m ∧ Q (.bl true) H
end
end L2

namespace L2
open PySem PySem.Spec PyProof.Rows PySem.W
theorem push_other {h : Heap} {o u : Obj} {b : Addr} (e : (h.push o).get? b = some u) (n : b ≠ h.objs.size) : h.get? b = some u := by
  obtain ⟨e1, e2⟩ := Heap.get?_some_iff.mp e
  refine Heap.get?_some_iff.mpr ⟨?_, e2⟩
  cases h
  simpa [Heap.push, Array.getElem?_push, n] using e1
section
variable {prog : Program} {w : World} {K : Type} [DecidableEq K] {knd : KeyKind prog w K} {A : Around} {E : Value → Shared → Prop} {s : Shared} {d : Addr} {kvs : List (K × Value)} {ep : Nat}
theorem ext_dict {R : Result → Shared → Prop} (hh : A.handled = none) (hd : (d == sysModules) = false) (y : Addr) (c0 : Nat) (hz : kvs.length ≤ sizeLine) (hm : s.heap.DictAt knd d kvs ep)
    (hy : s.heap.get? y = some { cls := .type "list", data := .seq #[] c0 }) (hyd : y ≠ d)
    (hR : ∀ s' acc c, s'.gens = s.gens → s'.drawn = s.drawn → s'.os = s.os → (∀ b o, b ≠ y → s.heap.get? b = some o → s'.heap.get? b = some o) → s'.heap.get? y = some { cls := .type "list", data := .seq acc c } → ItemsOf (fun i v => ∃ k x, kvs[i]? = some (k, x) ∧ knd.is k v = true) acc kvs.length → R (.ok (.ret .none)) s') :
    wpAny (model prog w) A.in1 (Builtin.List.listExtendWith (.ref y) (.ref d) .none)
      (fun f s' => match f with | .done g => R (.ok g) s' | .again c => c.quiet = true ∧ codeAny (model prog w) A c R s') (fun e s' => R (.error e) s') s := by
  have hT : s.TypeIs (.ref d) "dict" := hm.dictOf.typeIs
  have hyl : y < s.heap.objs.size := Heap.lt_size hy
  have hdl : d < s.heap.objs.size := hm.lt_size
  have W := (Walks.dictKeys (knd := knd) (A := A.in1) hh s.heap.objs.size d (Nat.ne_of_lt hdl) kvs ep).toS
  have nf : y ∉ [s.heap.objs.size, d] := by simp [hyd, Nat.ne_of_lt hyl]
  unfold Builtin.List.listExtendWith
  refine wpAny_bind (wpAny_typeOf hT ?_)
  have a1 : Builtin.List.listSameRef (.ref y) (.ref d) = false := by simp [Builtin.List.listSameRef, hyd]
  have a2 : (Value.type "dict" == Value.type "list") = false := by decide
  have a3 : (Value.type "dict" == Value.type "tuple") = false := by decide
  simp only [a1, a2, a3, Bool.or_self, Bool.false_eq_true, if_false]
  refine wpAny_bind (wpAny_pyIter_dict hd hm ?_)
  refine wpAny_bind (wpAny_holding ?_)
  have hT1 : Shared.TypeIs { s with heap := s.heap.push { cls := .type "dict_keyiterator", data := .fields #[.ref d, .int 0 0, .int kvs.length 0, .int ep 0] } } (.ref d) "dict" := by
    obtain ⟨o, es, e, c, _⟩ := id hm
    exact ⟨o, Heap.get?_push_of_some _ e, c.1⟩
  unfold Builtin.List.listLengthHint
  refine wpAny_bind (wpAny_specialOf hT1 F.slot_dict_len.lookup ?_)
  generalize hid : ("dict.__len__" : String) = id0
  wp_delta
  rw [show splitId id0 = some ("dict", "__len__") from by subst hid; decide +kernel]
  subst hid
  refine wpAny_bind (wpAny_isInstance (T := "dict") (b := true) hT1 (by rw [isSubtype_type]; kernel_rfl) ?_)
  refine wpAny_ite_split (fun hab => absurd hab (by decide)) (fun _ => ?_)
  refine wpAny_ite_split (fun _ => ?_) (fun hab => absurd (by decide +kernel) hab)
  refine wpAny_bind (wpAny_typeOf hT1 (wpAny_pure ?_))
  show wpAny _ A.in1 (rule "list.extend.makes-room" >>= fun _ => Builtin.List.listTouch (.ref y) >>= fun _ =>
    again (.builtin "list.extend.loop" ⟨[.ref y, .ref s.heap.objs.size, .none], []⟩)) _ _ _
  refine wpAny_bind (wpAny_rule ?_)
  have hy1 := Heap.get?_push_of_some { cls := .type "dict_keyiterator", data := .fields #[.ref d, .int 0 0, .int kvs.length 0, .int ep 0] } hy
  refine wpAny_bind ?_
  show wpAny _ A.in1 (updateSeq y (·.push .none) >>= fun _ => updateSeq y (·.pop)) _ _ _
  refine wpAny_bind (wpAny_updateSeq hy1 rfl ?_)
  have hy2 := Heap.get?_update_self (Obj.mapSeq (·.push Value.none)) hy1 rfl
  refine wpAny_updateSeq (hz := by seq_fits) hy2 rfl ?_
  have hy3 := Heap.get?_update_self (Obj.mapSeq (·.pop)) hy2 rfl
  have ot : ∀ b o, b ≠ y → (s.heap.push { cls := .type "dict_keyiterator", data := .fields #[.ref d, .int 0 0, .int kvs.length 0, .int ep 0] }).get? b = some o → (((s.heap.push { cls := .type "dict_keyiterator", data := .fields #[.ref d, .int 0 0, .int kvs.length 0, .int ep 0] }).update y (Obj.mapSeq (·.push Value.none))).update y (Obj.mapSeq (·.pop))).get? b = some o :=
    fun b o hb e => (Heap.get?_update_other _ _ (Ne.symm hb)).trans ((Heap.get?_update_other _ _ (Ne.symm hb)).trans e)
  have it0 : Heap.IsKeyIter (s.heap.push { cls := .type "dict_keyiterator", data := .fields #[.ref d, .int 0 0, .int kvs.length 0, .int ep 0] }) s.heap.objs.size d 0 kvs.length ep := ⟨_, Heap.get?_push_size _ rfl, rfl, rfl⟩
  refine wpAny_pure ⟨plainId_quiet F.plain_extend_loop _, codeAny_extend_loopS W hz _ nf _ kvs.length 0 _ _ _ rfl (Nat.zero_le _) ⟨it0.at fun o e => ot _ o (Ne.symm (Nat.ne_of_lt hyl)) e, (hm.push _).at' fun o e => ot _ o (Ne.symm hyd) e⟩ hy3 (ItemsOf.nil _) fun s' acc c hmv hs hacc => ?_⟩
  refine hR s' acc c hmv.gens hmv.drawn hmv.os (fun b o hb e => hmv.heap b o ?_ (ot b o hb (Heap.get?_push_of_some _ e))) hs hacc
  simp [hb, Nat.ne_of_lt (Heap.lt_size e)]
theorem call_list_dict {Q : Value → Shared → Prop} (hh : A.handled = none) (hd : (d == sysModules) = false) (hz : kvs.length ≤ sizeLine) (hm : s.heap.DictAt knd d kvs ep)
    (hQ : ∀ s' acc c, s'.gens = s.gens → s'.drawn = s.drawn → s'.os = s.os → (∀ b o, s.heap.get? b = some o → s'.heap.get? b = some o) → s'.heap.get? s.heap.objs.size = some { cls := .type "list", data := .seq acc c } → ItemsOf (fun i v => ∃ k x, kvs[i]? = some (k, x) ∧ knd.is k v = true) acc kvs.length → Q (.ref s.heap.objs.size) s') :
    wpAny (model prog w) A (call (.type "list") [.ref d]) Q E s := by
  have hdl : d < s.heap.objs.size := hm.lt_size
  refine callType_codes (Q₁ := fun u s1 => u = .ref s.heap.objs.size ∧ s1 = { s with heap := s.heap.push { cls := .type "list", data := .seq #[] } }) F.called_list (F.typeCall_list_1 _) F.entry_list_init (code_list_new _ ⟨rfl, rfl⟩) fun u s1 hu => ?_
  obtain ⟨rfl, rfl⟩ := hu
  have h0 : (s.heap.push { cls := .type "list", data := .seq #[] }).get? s.heap.objs.size = some { cls := .type "list", data := .seq #[] } := Heap.get?_push_size _ rfl
  refine ⟨⟨_, h0, rfl⟩, F.args_list_init_2 _ _, ?_⟩
  show wpAny _ _ (Builtin.List.listItems (.ref s.heap.objs.size) >>= fun old => Builtin.List.listUpdate (.ref s.heap.objs.size) (fun _ => #[]) >>= fun _ => letGo old.toList.reverse >>= fun _ => Builtin.List.listExtendWith (.ref s.heap.objs.size) (.ref d) .none) _ _ _
  refine wpAny_bind ?_
  unfold Builtin.List.listItems
  refine wpAny_bind (wpAny_seqItems h0 rfl (wpAny_pure (wpAny_bind ?_)))
  refine wpAny_updateSeq h0 rfl (wpAny_bind (wpAny_letGo ?_))
  have h2 := Heap.get?_update_self (Obj.mapSeq (fun _ => (#[] : Array Value))) h0 rfl
  have ot : ∀ b o, b ≠ s.heap.objs.size → s.heap.get? b = some o → ((s.heap.push { cls := .type "list", data := .seq #[] }).update s.heap.objs.size (Obj.mapSeq (fun _ => (#[] : Array Value)))).get? b = some o := fun b o hb e => by
    rw [Heap.get?_update_other _ _ (Ne.symm hb)]
    exact Heap.get?_push_of_some _ e
  refine ext_dict (A := A.in1) hh hd _ _ hz (hm.at' fun o e => ot d o (Nat.ne_of_lt hdl) e) h2 (Ne.symm (Nat.ne_of_lt hdl)) fun s' acc c e1 e2 e3 hm' hs hacc => ?_
  exact ⟨rfl, hQ s' acc c e1 e2 e3 (fun b o e => hm' b o (Nat.ne_of_lt (Heap.lt_size e)) (ot b o (Nat.ne_of_lt (Heap.lt_size e)) e)) hs hacc⟩
end
section
variable {X : Cx}
def rListD : List V → Hp → VK → Prop := fun xs H Q => ∃ p kvs, xs = [.ref p] ∧ Rd H p (.dK kvs) ∧ ∀ q, H q = none → Q (.ref q) (upd H q (.lst (kvs.map fun kv => kV kv.1)))
theorem items_keys {P : Program} {w : World} {kvs : List (Key × V)} {vs : List (Key × Value)} {acc : Array Value} (kv : KV kvs vs) (h : ItemsOf (fun i v => ∃ k x, vs[i]? = some (k, x) ∧ (mixKind P w).is k v = true) acc vs.length) : Vals (kvs.map fun kv => kV kv.1) acc.toList := by
  obtain ⟨h0, h1⟩ := h
  have key : ∀ (kvs : List (Key × V)) (vs : List (Key × Value)), KV kvs vs → ∀ l : List Value, l.length = vs.length → (∀ (i : Nat) (v : Value), l[i]? = some v → ∃ k x, vs[i]? = some (k, x) ∧ (mixKind P w).is k v = true) → Vals (kvs.map fun kv => kV kv.1) l := by
    intro kvs vs r
    induction r with
    | nil =>
      intro l hl _
      cases l with
      | nil => exact .nil
      | cons => simp at hl
    | cons r t ih =>
      intro l hl hi
      cases l with
      | nil => simp at hl
      | cons v l =>
        refine .cons ?_ (ih l (by simpa using hl) fun i v e => ?_)
        · obtain ⟨k, x, e, hk⟩ := hi 0 v rfl
          have e' := Option.some.inj e
          dsimp only
          rw [r.1, e']
          exact relV_key hk
        · exact hi (i + 1) v (by simpa using e)
  exact key kvs vs kv acc.toList (by simpa using h0) fun i v e => h1 i v (by simpa using e)
theorem call_listD (hc : X.calm = true) : CallR X (.type "list") rListD := by
  intro pins s σ H xs us Q I rv h
  obtain ⟨p, kvs, rfl, hH, q⟩ := h
  obtain ⟨u, rfl, ru⟩ := rv.one
  cases ru
  have ob : ObjOk X.prog X.w H s.heap p (.dK kvs) := by
    rcases hH with e | ⟨o, e⟩
    · exact I.hok p _ e
    · exact (I.hok p _ e).2
  obtain ⟨hz, hs, vs, kv, dof⟩ := ob
  obtain ⟨ep, da⟩ := dof.dictAt
  have hlen : vs.length = kvs.length := kv.length.symm
  refine call_list_dict (I.ok.hd hc) hs (by rw [hlen]; exact hz) da fun s' acc c eg ed eo hk hs' hacc => ?_
  obtain ⟨h', g', d', tk', os'⟩ := s'
  have eg : g' = s.gens := eg
  have ed : d' = s.drawn := ed
  have eo : os' = s.os := eo
  subst eg; subst ed; subst eo
  refine ⟨.ref s.heap.objs.size, _, I.laid (t' := tk') (o := .lst (kvs.map fun kv => kV kv.1)) (fun b ob e => hk b ob e) (Nat.le_refl _) ?_, rfl, q _ (I.hok.fresh (Nat.le_refl _))⟩
  exact ⟨by rw [List.length_map]; exact hz, acc.toList, c, items_keys kv hacc, by simpa using hs'⟩
end
section
variable {σ : St} {H : Hp} {Q : VK} {p : Addr} {m : List (Str × PyData)}
theorem DKs.keys {H H' : Hp} : ∀ {kvs : List (Key × V)} {m : List (Str × PyData)}, DKs H kvs m → Dvs H' (kvs.map fun kv => kV kv.1) ((m.map (·.1)).map PyData.str)
  | _, _, .nil => .nil
  | _, _, .cons _ _ r => .cons (.str _) (DKs.keys r)
theorem immAll_strs : ∀ ss : List Str, ImmAll (ss.map PyData.str) = true
  | [] => rfl
  | _ :: r => by rw [List.map_cons, ImmAll, immAll_strs r]; rfl
theorem r_listD (hp : DRd H p m) (k : ∀ q H', Same H H' → H q = none → LAt H' q ((m.map (·.1)).map PyData.str) → Q (.ref q) H') : rListD [.ref p] H Q := by
  obtain ⟨kvs, e, dk⟩ := hp
  exact ⟨p, kvs, rfl, e, fun q hq => k q _ (same_upd hq) hq (lat_upd hq dk.keys (immAll_strs _))⟩
end
theorem entry_itemiter_iter : entryFor table "dict_itemiterator.__iter__" = some Builtin.«dict_keyiterator.__iter__» :=
  entryFor_alias (id' := "dict_keyiterator.__iter__") (by kernel_rfl) rfl (by decide +kernel) (by kernel_rfl)
def Iti (d : Addr) (o : Obj) (kvs : List (Key × V)) : It := ⟨fun i H => i < kvs.length ∧ H d = some (.frz o (.dK kvs)), fun i H v H' => ∃ t kv, kvs[i]? = some kv ∧ v = .ref t ∧ H t = none ∧ H' = upd H t (.tup [kV kv.1, kv.2]), fun i H => i = kvs.length ∧ H d = some (.frz o (.dK kvs))⟩
theorem turn_items {P : Program} {w : World} {K : PySem.W.Frag} {elts : List Expr} {x1} {pos : Pos} {it d : Addr} {o : Obj} {kvs : List (Key × V)} {es : Array DictEntry} {ep : Nat} (he : o.data = .dict es ep) (hne : d ≠ it) :
    Turn P w K (.Tuple elts x1 pos) (Iti d o kvs) [it] it (fun i h => ∃ ok ov, IsItemIter h it d i kvs.length ep ok ov) where
  mem := by simp
  obj := fun i h st b hb => by
    have e : b = it := by simpa using hb
    subst e
    obtain ⟨ok, ov, e⟩ := st
    exact ⟨_, e, fun v z => by cases z⟩
  keep := fun i h h' st k => let ⟨ok, ov, e⟩ := st; ⟨ok, ov, k it (by simp) _ e⟩
  item := by
    intro X hP hw hK hc i pins s σ H E I hf st hg
    subst hP hw hK
    obtain ⟨f0, f1, f2, f3, f4, f5⟩ := hf it (by simp)
    obtain ⟨hi, hd⟩ := hg
    obtain ⟨_, vs, kv, da⟩ := dict_at I.hok hd he
    have hl : vs.length = kvs.length := kv.length.symm
    obtain ⟨ok, ov, st⟩ := st
    obtain ⟨q, hq⟩ : ∃ q, kvs[i]? = some q := ⟨_, List.getElem?_eq_getElem hi⟩
    obtain ⟨⟨k, v⟩, hy, hy2⟩ := paired_get kv hq
    have hil : it < s.heap.objs.size := Heap.lt_size st
    have hn : H s.heap.objs.size = none := I.hok.fresh (Nat.le_refl _)
    refine wpAny_pyNext_items_item (knd := mixKind X.prog X.w) (by rw [hl]; exact st) da hy fun key h' hk hit ht hz kk => ?_
    rw [hl] at hit
    refine ⟨_, rfl, wpAny_letOwnedTupleGo_items (s := { s with heap := h' }) hit fun h2 hit2 sb => ?_⟩
    have I1 : Inv X pins σ (upd H s.heap.objs.size (.tup [kV q.1, q.2])) { s with heap := s.heap.push { cls := .type "tuple", data := .seq #[key, v] } } :=
      I.laid (t' := s.toks) (fun b u e => Heap.get?_push_of_some _ e) (Nat.le_refl _) (show ObjOk X.prog X.w _ _ _ (.tup [kV q.1, q.2]) from ⟨by rw [sizeLine_eq]; simp, [key, v], .cons (by rw [hy2.1]; exact relV_key hk) (.cons hy2.2 .nil), IsTup.new _ _⟩)
    have hni : upd H s.heap.objs.size (.tup [kV q.1, q.2]) it = none := by rw [upd_ne (Nat.ne_of_lt hil)]; exact f0
    have I2 : Inv X pins σ (upd H s.heap.objs.size (.tup [kV q.1, q.2])) { s with heap := h2 } := by
      refine Inv.turned (s := { s with heap := s.heap.push { cls := .type "tuple", data := .seq #[key, v] } }) (h' := h2) (t' := s.toks) (it := it) I1 (fun b u hb e => ?_) hni f1 f3 f4 f5
      by_cases hbn : b = s.heap.objs.size
      · subst hbn
        have e0 : (s.heap.push { cls := .type "tuple", data := .seq #[key, v] }).get? s.heap.objs.size = some { cls := .type "tuple", data := .seq #[key, v] } := Heap.get?_push_size _ rfl
        have e1 := e0.symm.trans e
        cases e1
        exact (sb.2 _ hb).trans ht
      · exact (sb.2 _ hb).trans (kk b u hb (push_other e hbn))
    refine ⟨.ref s.heap.objs.size, _, I2, rfl, ⟨_, q, hq, rfl, hn, rfl⟩, ⟨_, _, hit2⟩, fun b hb => ?_⟩
    have e : b = it := by simpa using hb
    rw [e]
    exact hni
  done := by
    intro X hP hw hK hc i pins s σ H E I hf st hg
    subst hP hw hK
    obtain ⟨f0, f1, f2, f3, f4, f5⟩ := hf it (by simp)
    obtain ⟨hi, hd⟩ := hg
    obtain ⟨_, vs, kv, da⟩ := dict_at I.hok hd he
    have hl : vs.length = kvs.length := kv.length.symm
    obtain ⟨ok, ov, st⟩ := st
    refine wpAny_pyNext_items_end (knd := mixKind X.prog X.w) (I.ok.hd hc) (by rw [hl]; exact st) da (by rw [hi, ← hl]; simp) fun h' hx => ⟨rfl, I.turned (t' := s.toks) (fun b u hb e => hx b u hb e) f0 f1 f3 f4 f5⟩
  self := fun A i s Q E st q => by
    obtain ⟨ok, ov, st⟩ := st
    have hT : s.TypeIs (.ref it) "dict_itemiterator" := ⟨_, st, rfl⟩
    refine wpAny_pyIter_slot hT F.slot_dict_itemiterator_iter (wpAny_call_entry F.slot_dict_itemiterator_iter hT entry_itemiter_iter ?_ (F.args_dict_itemiterator_iter_1 _))
    show wpAny _ _ (ret (.ref it)) _ _ s
    exact wpAny_pure ⟨_, rfl, "dict_itemiterator", _, hT, F.slot_dict_itemiterator_next.lookup, q⟩
def iItems (tl : TE) : TI := fun σ H R => tl σ H fun v H1 => ∃ d kvs, v = .ref d ∧ H1 d = some (.dK kvs) ∧ ∀ o, R (Iti d o kvs) (upd H1 d (.frz o (.dK kvs)))
theorem pi_items {X : Cx} {elts : List Expr} {x1} {tpos : Pos} {l : Expr} {tl : TE} {apos cpos : Pos} (hl : PE X l tl)
    (hbase : attributeBase l "items" X.env (eval l X.env) = eval l X.env := by rfl) (hline : (apos.endLine == cpos.line) = true := by rfl) : PI X (.Tuple elts x1 tpos) (.Call (.Attribute l "items" apos) [] [] cpos) (iItems tl) := by
  intro pins s σ H R I h
  refine wpAny_Call_method0_late hbase hline (thn (hl pins s σ H _ I h) fun v s1 ⟨y, H1, I1, r1, q1⟩ => ?_)
  obtain ⟨d, kvs, rfl, hd, q⟩ := q1
  obtain ⟨h1, h2⟩ := tyV_is I1 (T := "dict") r1 (.inr (.inr (.inl ⟨rfl, .inl ⟨kvs, hd⟩⟩)))
  cases r1
  refine ⟨"dict", "dict.items", PySem.F.plainAttrs_dict, PySem.F.slot_dict_items, PySem.F.type_dict_items, h1, h2, Calls.callWith_builtin rfl (PySem.evalArgs_none ?_)⟩
  obtain ⟨_, hs, vs, kv, o, es, ep, ho, a2, a3, a4⟩ := (show ObjOk X.prog X.w H1 s1.heap d (.dK kvs) from I1.hok d _ hd)
  have da : s1.heap.DictAt (mixKind X.prog X.w) d vs ep := ⟨o, es, ho, a2, a3, a4⟩
  have hlt : d < s1.heap.objs.size := Heap.lt_size ho
  have hlen : vs.length = kvs.length := kv.length.symm
  refine call_meetsIn PySem.F.slot_dict_items da.dictOf.typeIs PySem.F.entry_dict_items (PySem.F.args_dict_items_1 _) (meets_dict_items (mixKind X.prog X.w) d hs) ⟨⟨vs, da.dictOf⟩, ?_⟩
  refine wpAny_pyIter_items (v := s1.heap.objs.size) ⟨_, Heap.get?_push_size _ rfl, rfl, rfl⟩ (da.push _) ?_
  have I2 := I1.freeze hd ho
  have hsz : (s1.heap.push { cls := .type "dict_items", data := .fields #[.ref d] }).objs.size = s1.heap.objs.size + 1 := Heap.size_push ..
  refine ⟨_, [_], _, _, _, rfl, I2.kept (t' := s1.toks) fun b u e => Heap.get?_push_of_some _ (Heap.get?_push_of_some _ e), turn_items a3 (Nat.ne_of_lt (by rw [hsz]; exact Nat.lt_succ_of_lt hlt)), ⟨_, _, by rw [← hlen]; exact Heap.get?_push_size _ rfl⟩, fun b hb => ?_, q o⟩
  have e : b = (s1.heap.push { cls := .type "dict_items", data := .fields #[.ref d] }).objs.size := by simpa using hb
  subst e
  exact I2.fpOk (by rw [hsz]; exact Nat.le_succ _) (I2.hok.fresh (by rw [hsz]; exact Nat.le_succ _))
def ForI (p : Addr) (o : Obj) (kvs : List (Key × V)) (g : TG) (tb : TS) (D : Ends) (σ : St) (H1 : Hp) : Prop := ∃ W : Nat → Nat → St → Hp → Prop, (∃ m, W 0 m σ H1) ∧ ∀ i m σ H, W i m σ H →
  ((Iti p o kvs).stop i H ∧ D.nx σ H) ∨ ((Iti p o kvs).go i H ∧ ∃ N : St → Hp → Prop, (∀ σ' H', N σ' H' → ∃ m', m' < m ∧ W (i + 1) m' σ' H') ∧ ∀ x H', (Iti p o kvs).yld i H x H' → g x σ H' fun σ2 H2 => tb { D with nx := N, ct := N, bk := D.nx } σ2 H2)
section
variable {σ : St} {H : Hp} {D : Ends} {p : Addr} {m : List (Str × PyData)} {g : TG} {tb : TS}
end
section
variable {σ : St} {H : Hp} {K : PySem.W.Frag}
theorem r_unpP {x : V} {i j : Nat} {d1 d2 : PyData} {R : St → Hp → Prop} (hd : Dv H x (.tuple [d1, d2])) (h : ∀ v1 v2, Dv H v1 d1 → Dv H v2 d2 → R ((σ.set i (some v1)).set j (some v2)) H) :
    gTup K 2 (gCons (gName i) (gCons (gName j) gNil)) x σ H R := by
  cases hd with
  | tup ha r =>
    cases r with
    | cons h1 r =>
      cases r with
      | cons h2 r =>
        cases r
        exact ⟨_, _, rfl, .of ha, rfl, _, _, rfl, _, _, rfl, rfl, h _ _ h1 h2⟩
end
end L2

namespace L2
open PySem
def UpA (xs : Array Nat) : Prop := ∀ i j, (hi : i < xs.size) → (hj : j < xs.size) → i < j → xs[i] < xs[j]
structure Good (t : SetTable) : Prop where
  up : UpA t.place
  nd : t.dummies = #[]
end L2
namespace L2
open PySem
section
variable {prog : Program} {w : World} {A : Around} {E : Value → Shared → Prop} {s : Shared}
def SetG (prog : Program) (w : World) (h : Heap) (a : Addr) (S : Int → Bool) (n : Nat) : Prop :=
  ∃ o es ep t, h.get? a = some o ∧ o.ExactSet ∧ o.data = .set es ep t ∧ ElemsOf (intKind prog w) es.toList ∧ (∀ k, S k = true ↔ ∃ e ∈ es.toList, (intKind prog w).is k e.2 = true) ∧ es.size < scanBound ∧ t.fits es.size = true ∧ es.size = n ∧ Good t ∧ t.led = !w.params.followText "set-order"
end
end L2
namespace L2
open PySem
section
variable {prog : Program} {w : World} {A : Around} {E : Value → Shared → Prop} {s : Shared}
end
end L2
namespace L2
open PySem
set_option maxRecDepth 100000
def siObj (f : Value) (i : Nat) (a : Addr) (n ep : Nat) : Obj := { cls := .type "set_iterator", data := .fields #[f, rawInt i, .ref a, rawInt n, rawInt ep] }
section
variable {prog : Program} {w : World} {A : Around} {E : Value → Shared → Prop} {s : Shared} {it a : Addr} {o : Obj} {es : Array (Int × Value)} {ep : Nat} {t : SetTable}
end
end L2
namespace L2
open PySem
section
variable {prog : Program} {w : World} {A : Around} {E : Value → Shared → Prop} {s : Shared} {it a : Addr} {o : Obj} {es : Array (Int × Value)} {ep : Nat} {t : SetTable}
end
end L2
namespace L2
open PySem
section
variable {prog : Program} {w : World} {A : Around} {E : Value → Shared → Prop} {s : Shared} {it a : Addr} {o : Obj} {es : Array (Int × Value)} {ep : Nat} {t : SetTable}
end
end L2
namespace L2
open PySem PySem.Spec PyProof.Rows
section
variable {prog : Program} {w : World} {A : Around} {R : Result → Shared → Prop} {it y : Addr} {fp wr : List Addr} {G : Array GenState → Array GenState → Prop} {n : Nat} {Pv : Nat → Value → Prop} {St : Nat → Shared → Prop}
end
section
variable {prog : Program} {w : World} {A : Around} {E : Value → Shared → Prop} {s : Shared}
set_option maxRecDepth 100000 in
set_option maxHeartbeats 3200000 in
end
end L2
namespace L2
open PySem PySem.Spec PyProof.Rows
section
variable {prog : Program} {w : World} {A : Around} {E : Value → Shared → Prop} {s : Shared} {a : Addr} {S : Int → Bool} {n : Nat}
end
end L2

namespace L2
open PySem PySem.Spec PyProof.Rows PySem.W
section
variable {X : Cx} {e : Expr} {te : TE} {p p2 pos pos2 : Pos}
def rSortSet : V → Hp → VK → Prop := fun x H Q => ∃ ns : List Int, Dv H x (.list (ns.map PyData.int)) ∧ ns.length < 64 ∧ ∀ (q : Addr) (H' : Hp) (ms : List Int), Same H H' → H q = none → ms.Pairwise (· < ·) → (∀ k, k ∈ ms ↔ k ∈ ns) → LAt H' q (ms.map PyData.int) → Q (.ref q) H'
def tSortSet (te : TE) : TE := fun σ H Q => te σ H fun x H1 => rSortSet x H1 Q
end
section
variable {σ : St} {H : Hp} {Q : VK} {v : V}
end
section
variable {X : Cx}
def rDClear : V → List V → Hp → VK → Prop := fun x vs H Q => ∃ a kvs, x = .ref a ∧ vs = [] ∧ H a = some (.dK kvs) ∧ Q .non (upd H a (.dK []))
end
section
variable {σ : St} {H : Hp} {Q : VK} {K : PySem.W.Frag} {p : Addr} {m : List (Str × PyData)}
end
end L2

namespace L2
open PySem PySem.Spec PyProof.Rows PySem.W
def Tr (h : Heap) (a T : Addr) (c : Value) : Prop := ∃ oe vs oT ts, h.get? a = some oe ∧ oe.cls = c ∧ oe.dict = none ∧ oe.data = .fields vs ∧ vs[1]? = some (.ref T) ∧ T ≠ a ∧ h.get? T = some oT ∧ oT.data = .fields ts ∧ ts[3]? = some .none ∧ vs[2]? = some .none
structure Lv (l : List Env) (S : List Addr) (h h' : Heap) : Prop where
  keep : ∀ b o, b ∉ frs l → b ∉ S → h.get? b = some o → h'.get? b = some o
  slot : ∀ b o, b ∈ frs l → h.get? b = some o → ∃ sl, h'.get? b = some { o with slots := sl }
section
variable {M : Model} {A : Around} {E : Value → Shared → Prop} {s : Shared} {env : Env} {outer : List Env} {L a T : Addr} {c : Value} {base : Heap} {Q : Unit → Shared → Prop}
end
theorem ObjOk.live {P : Program} {w : World} {H : Hp} {h : Heap} {a : Addr} {o : HO} (x : ObjOk P w H h a o) : ∃ ob, h.get? a = some ob := by
  induction o with
  | lst xs => obtain ⟨_, _, _, _, e⟩ := x; exact ⟨_, e⟩
  | tup xs => obtain ⟨_, _, _, ob, e, _⟩ := x; exact ⟨_, e⟩
  | dK kvs => obtain ⟨_, _, _, _, o, _, _, e, _⟩ := x; exact ⟨_, e⟩
  | dT kvs => obtain ⟨_, _, _, _, o, _, _, e, _⟩ := x; exact ⟨_, e⟩
  | set S n => obtain ⟨o, _, _, _, e, _⟩ := x; exact ⟨_, e⟩
  | ins C dx fs => obtain ⟨_, _, _, e, _⟩ := x; exact ⟨_, e⟩
  | own y => exact x
  | xd fs => obtain ⟨_, ⟨_, _, _, e, _⟩, _⟩ := x; exact ⟨_, e⟩
  | rng lo hi => obtain ⟨_, _, _, e⟩ := x; exact ⟨_, e⟩
  | frz ob u _ => exact ⟨_, x.1⟩
  | tbl ps => exact ⟨_, x⟩
  | met f y => exact ⟨_, x⟩
  | ext φ => exact x.2.1
theorem HOk.dead {P : Program} {w : World} {H : Hp} {h : Heap} {a : Addr} (ok : HOk P w H h) (n : h.get? a = none) : H a = none := by
  cases e : H a with
  | none => rfl
  | some u =>
    obtain ⟨o, z⟩ := (ok a u e).live
    rw [n] at z
    cases z
def CXR (P : Program) (w : World) : CXT := fun outer H s E e s' => ∃ a T C H', e = .ref a ∧ s'.os = s.os ∧ AllBare s'.gens ∧ Un (frs outer) [] H H' s.heap s'.heap ∧ HOk P w H' s'.heap ∧ Tr s'.heap a T (.ref C) ∧ s.heap.get? a = none ∧ s.heap.get? T = none ∧ H' a = none ∧ H' T = none ∧ E (.ref C) none H'
section
variable {P : Program} {w : World} {K : PySem.W.Frag} {mg : Str → Option Value} {base : Heap} {N : List Str} {qual : Str} {scope : Scope} {f : Addr} {cd : Value} {A : Around} {outer : List Env} {s0 : Shared} {H0 : Hp} {E : XK} {CX : CXT} {pins : List (Addr × Obj)} {σ : St} {H : Hp} {s : Shared}
def RaiseOk (X : Cx) (E : XK) : Prop := ∀ (pins : List (Addr × Obj)) (σ : St) (H : Hp) (s : Shared) (h1 : Heap) (a C : Addr) (args : List Value), Inv X pins σ H s → Heap.MadeExcOf s.heap h1 a (.ref C) args → E (.ref C) none H → X.xe (.ref a) { s with heap := h1 }
end
section
variable {K : PySem.W.Frag} {h : Heap} {C : Addr} {bmB : List Value} {newId : String}
def ExcCls (h : Heap) (C : Addr) (bmB : List Value) (newId : String) : Prop := ∃ (bm : List Value) (N : Addr) (nm q : Str) (bs : List Value) (hd : Bool) (sn : List Str) (sub : List Value) (ab : Bool) (col : Option Bool) (dd : Option Addr) (k0 k1 k2 k3 k5 : Option Value) (mN : Str → Option Value),
  h.get? C = some (excClassObj nm q C N bs bm hd sn sub ab col dd k0 k1 k2 k3 k5 newId) ∧ h.Ns N mN ∧ mN "__init__" = none ∧ OwnTail h bmB bm
theorem exc_of (X : K.In h) (q : excIn K C bmB newId = true) : ExcCls h C bmB newId := by
  unfold excIn at q
  split at q
  · rename_i dd cd sl ho
    split at q
    · rename_i C' bm k0 k1 k2 k3 n k5 hm hs
      simp only [Bool.and_eq_true, beq_iff_eq, Bool.not_eq_true'] at q
      obtain ⟨⟨⟨⟨⟨rfl, rfl⟩, hdel⟩, ht⟩, hok⟩, hni⟩ := q
      obtain ⟨nm, bs, mro, ns, qn, hd, sn, sub, ab, col, del⟩ := cd
      dsimp only at hm hdel hok hni
      subst hm hdel
      obtain ⟨l⟩ := sl
      dsimp only at hs
      subst hs
      exact ⟨bm, ns, nm, qn, bs, hd, sn, sub, ab, col, dd, k0, k1, k2, k3, k5, _, X _ _ ho, .of_isNs (isNs_of_in X hok), nsMap_none_of_in X hok hni, tail_of_in X ht⟩
    · cases q
  · cases q
end
abbrev veB : List Value := [.type "ValueError", .type "Exception", .type "BaseException", .type "object"]
def ExcK (K : PySem.W.Frag) (C : Addr) : Prop := excIn K C veB "ValueError.__new__" = true
def tRaise (C : Addr) (E : XK) (ta : TA) : TS := fun _ σ H => ta σ H fun vs H1 => vs.length ≤ sizeLine ∧ E (.ref C) none H1
section
variable {X : Cx} {pins : List (Addr × Obj)} {σ : St} {H : Hp} {s : Shared}
theorem Inv.lv {S : List Addr} {h' : Heap} {t' : Nat} (I : Inv X pins σ H s) (lv : Lv X.stack S s.heap h') (hS : ∀ b ∈ S, H b = none ∧ X.s₀.heap.get? b = none ∧ b ≠ X.env.locals ∧ (∀ x c, X.env.cells.lookup x = some c → c ≠ b) ∧ ∀ p ∈ X.pn ++ pins, p.1 ≠ b) : Inv X pins σ H { s with heap := h', toks := t' } := by
  have old : ∀ b o, X.s₀.heap.get? b = some o → b ∉ S ∧ b ≠ X.env.locals := fun b o e => ⟨fun z => (by rw [(hS b z).2.1] at e; cases e), Nat.ne_of_lt (Nat.lt_of_lt_of_le (Heap.lt_size e) I.ok.above)⟩
  have one : ∀ b o, b ∉ S → s.heap.get? b = some o → ∃ sl, h'.get? b = some { o with slots := sl } := fun b o n e => by
    by_cases m : b ∈ frs X.stack
    · exact lv.slot b o m e
    · exact ⟨o.slots, lv.keep b o m n e⟩
  have nL : X.env.locals ∉ S := fun z => (hS _ z).2.2.1 rfl
  have cellK : ∀ x c, X.env.cells.lookup x = some c → ∀ v, s.heap.IsCell c v → h'.IsCell c v := fun x c e v ⟨o, ho, hd⟩ => by
    obtain ⟨sl, q⟩ := one c o (fun z => (hS c z).2.2.2.1 x c e rfl) ho
    exact ⟨_, q, hd⟩
  have nst : ∀ b, b ∉ X.fs → b ≠ X.env.locals → b ∉ frs X.stack := fun b n1 n2 m => by
    rcases List.mem_cons.mp (I.stkSub b m) with z | z
    · exact n2 z
    · exact n1 z
  refine ⟨I.ok, I.os, I.bare, ⟨fun b o e n hb hx => ?_, fun b o e n hb hx => ?_, fun b o e n hx => I.base.free b o e n hx, fun b o e hx => ?_, I.base.tups, I.base.frzs, I.base.tbls⟩, ?_, fun x c e => ?_, I.free, I.freeC, fun p hp => ?_, fun b u e => ?_, I.len⟩
  · exact lv.keep b o (nst b hb (old b o e).2) (old b o e).1 (I.base.keep b o e n hb hx)
  · obtain ⟨sl, z⟩ := I.base.slot b o e n hb hx
    obtain ⟨sl2, z2⟩ := one b _ (old b o e).1 z
    exact ⟨sl2, z2⟩
  · obtain ⟨o2, z⟩ := I.base.there b o e hx
    obtain ⟨sl2, z2⟩ := one b _ (old b o e).1 z
    exact ⟨_, z2⟩
  · obtain ⟨m, ⟨o, es, ep, ho, r⟩, hl⟩ := I.loc
    obtain ⟨sl, z⟩ := one _ o nL ho
    refine ⟨m, ⟨_, es, ep, z, r⟩, fun i x v e1 e2 e3 => ?_⟩
    obtain ⟨u, ru, l⟩ := hl i x v e1 e2 e3
    refine ⟨u, ru, ?_⟩
    rcases l with l | ⟨k, c, e, z⟩
    · exact .inl l
    · exact .inr ⟨k, c, e, cellK x c e _ z⟩
  · obtain ⟨v, z⟩ := I.cell x c e
    exact ⟨v, cellK x c e v z⟩
  · obtain ⟨e, n, ne, nf, d⟩ := I.pin p hp
    exact ⟨lv.keep p.1 p.2 (nst p.1 nf ne) (fun z => (hS p.1 z).2.2.2.2 p hp rfl) e, n, ne, nf, d⟩
  · refine (I.hok b u e).stay (fun c v hc q => ?_) (fun _ q => q) fun _ _ q => q
    have hc' : H c ≠ none := by
      rcases hc with rfl | hc
      · rw [e]; intro z; cases z
      · rw [hc]; intro z; cases z
    exact lv.keep c v (fun m => hc' (I.stkFree c m)) (fun m => hc' (hS c m).1) q
def isE (a C : Addr) : Heap → Prop := fun h => ∃ o vs, h.get? a = some o ∧ o.cls = .ref C ∧ o.dict = none ∧ o.data = .fields vs ∧ vs[2]? = some .none
theorem Inv.trackE {a : Addr} {φ : Heap → Prop} (I : Inv X pins σ H s) (ha : H a = none) (hs : X.s₀.heap.get? a = none) (hL : a ≠ X.env.locals) (hc : ∀ x c, X.env.cells.lookup x = some c → c ≠ a) (hp : ∀ p ∈ X.pn ++ pins, p.1 ≠ a)
    (new : φ s.heap ∧ (∃ o, s.heap.get? a = some o) ∧ ∀ h1 h2 : Heap, φ h1 → (∀ o, h1.get? a = some o → h2.get? a = some o) → φ h2) : Inv X pins σ (upd H a (.ext φ)) s := by
  have kp : ∀ b u, H b = some u → upd H a (.ext φ) b = some u := fun b u e => by rw [upd_ne (fun z => by rw [z, ha] at e; cases e)]; exact e
  have fr : ∀ b, b ≠ a → H b = none → upd H a (.ext φ) b = none := fun b n e => by rw [upd_ne n]; exact e
  refine ⟨I.ok, I.os, I.bare, ⟨I.base.keep, I.base.slot, fun b o e n hx => fr b (fun z => by rw [z, hs] at e; cases e) (I.base.free b o e n hx), I.base.there, fun b xs e => kp _ _ (I.base.tups b xs e), fun b o u e => kp _ _ (I.base.frzs b o u e), fun b ps e => ?_⟩, I.loc, I.cell, fr _ (Ne.symm hL) I.free, fun x c e => fr _ (hc x c e) (I.freeC x c e), fun p hp' => ?_, fun b u e => ?_, I.len⟩
  · obtain ⟨m, z⟩ := I.base.tbls b ps e
    exact ⟨m, kp _ _ z⟩
  · obtain ⟨e1, e2, e3⟩ := I.pin p hp'
    exact ⟨e1, fr _ (hp p hp') e2, e3⟩
  · by_cases z : b = a
    · subst z
      rw [upd_same] at e
      cases e
      exact new
    · rw [upd_ne z] at e
      exact (I.hok b u e).stay (fun _ _ _ q => q) (fun c q => kp _ _ q) fun c xs q => kp _ _ q
abbrev Cx.tryC (X : Cx) (f : Value → Shared → Prop) (pn : List (Addr × Obj)) : Cx := { X with xe := f, pn := pn }
abbrev Cx.hand (X : Cx) (a : Addr) : Cx := { X with A := X.A.mark (some (.ref a)), calm := false, xe := fun _ _ => False }
theorem Inv.toTry {f : Value → Shared → Prop} (I : Inv X pins σ H s) : Inv (X.tryC f (X.pn ++ pins)) [] σ H s :=
  ⟨⟨I.ok.mod, I.ok.kind, I.ok.glob, I.ok.blt, I.ok.above, I.ok.inj, I.ok.has, I.ok.cab, I.ok.hd, I.ok.frames, I.ok.stk, I.ok.exf, I.ok.bs, I.ok.bsz, I.ok.noex, I.ok.exfs, I.ok.funs, I.ok.frf⟩, I.os, I.bare, I.base, I.loc, I.cell, I.free, I.freeC, fun p hp => I.pin p (by simpa using hp), I.hok, I.len⟩
theorem Inv.ofTry {f : Value → Shared → Prop} {pins' : List (Addr × Obj)} (I : Inv (X.tryC f (X.pn ++ pins)) pins' σ H s) : Inv X pins σ H s :=
  ⟨⟨I.ok.mod, I.ok.kind, I.ok.glob, I.ok.blt, I.ok.above, I.ok.inj, I.ok.has, I.ok.cab, I.ok.hd, I.ok.frames, I.ok.stk, I.ok.exf, I.ok.bs, I.ok.bsz, I.ok.noex, I.ok.exfs, I.ok.funs, I.ok.frf⟩, I.os, I.bare, I.base, I.loc, I.cell, I.free, I.freeC, fun p hp => I.pin p (List.mem_append_left _ hp), I.hok, I.len⟩
theorem Inv.toHand {a : Addr} (I : Inv X pins σ H s) : Inv (X.hand a) pins σ H s :=
  ⟨⟨I.ok.mod, I.ok.kind, I.ok.glob, I.ok.blt, I.ok.above, I.ok.inj, I.ok.has, I.ok.cab, (fun z => nomatch z), I.ok.frames, I.ok.stk, I.ok.exf, I.ok.bs, I.ok.bsz, I.ok.noex, I.ok.exfs, I.ok.funs, I.ok.frf⟩, I.os, I.bare, I.base, I.loc, I.cell, I.free, I.freeC, I.pin, I.hok, I.len⟩
theorem Inv.ofHand {a : Addr} (I : Inv (X.hand a) pins σ H s) (ok : X.Ok) : Inv X pins σ H s :=
  ⟨ok, I.os, I.bare, I.base, I.loc, I.cell, I.free, I.freeC, I.pin, I.hok, I.len⟩
end
section
variable {M : Model} {A : Around} {E : Value → Shared → Prop}
end
def HitE (K : PySem.W.Frag) (C D : Addr) : Prop := ExcK K C ∧ PySem.W.mroIn K C (.ref D) = some true
def tTry (n i : Nat) (tb : XK → TS) (ok : Addr → Prop) (ts : TS) : TS := fun D σ H =>
  tb (fun c _ H' => ∃ C, c = .ref C ∧ ok C ∧ ∀ a, H' a = none → ts { nx := fun _ H => D.nx (List.replicate n none) H, rt := D.rt, bk := fun _ H => D.bk (List.replicate n none) H, ct := fun _ H => D.ct (List.replicate n none) H } ((List.replicate n none).set i (some (.ref a))) (upd H' a (.ext (isE a C)))) D σ H
structure TyE (K : PySem.W.Frag) (C : Addr) : Prop where
  ga : PySem.W.findIn K (.ref C) "__getattribute__" = some (some (.builtin "BaseException.__getattribute__"))
  gn : PySem.W.findIn K (.ref C) "__getattr__" = some none
  mb : PySem.W.mroIn K C (.type "BaseException") = some true
  hd : PySem.W.hasDictIn K C = true
  ty : TyCls K C
section
variable {X : Cx}
def rIsiE (K : PySem.W.Frag) : List V → Hp → VK → Prop := fun xs H Q => ∃ a c cv C b, xs = [.ref a, c] ∧ ClsV c cv ∧ H a = some (.ext (isE a C)) ∧ TyE K C ∧ PySem.W.kitOne K (.ref C) cv = some b ∧ Q (.bl b) H
end
section
variable {P : Program} {w : World} {K : PySem.W.Frag} {mg : Str → Option Value} {base : Heap}
structure CalR (P : Program) (w : World) (K : PySem.W.Frag) (mg : Str → Option Value) (base : Heap) (k : Nat) (f : Addr) (ps : List Str) (dvs : List V) (sp : Sp) : Prop where
  ex : ∃ (fd : FuncData) (ds : List Value), FnOk P w K mg base (CXR P w) k f fd ps sp ∧ Binds K fd ps ds ∧ Vals dvs ds
end
section
variable {X : Cx} {k : Nat} {f : Addr} {ps : List Str} {sp : Sp} {dvs : List V} {E : XK} {x : Str} {p pos : Pos} {e : Expr} {es : List Expr} {t : TA}
end
section
variable {σ : St} {H : Hp} {Q : VK} {D : Ends} {K : PySem.W.Frag} {E : XK} {C : Addr} {ta : TA}
theorem r_raised {x : V} (h : E (.ref C) none H) : [x].length ≤ sizeLine ∧ E (.ref C) none H := ⟨by rw [sizeLine_eq]; simp, h⟩
end
end L2

namespace L2
open PySem PySem.Spec PyProof.Rows PySem.W
def sliceS (z : Str) (lo hi : Option Int) : Str := ⟨((Builtin.Str.strSliceIndices lo hi 1 z.length).filterMap (z.cps[·]?)).toArray⟩
def rSlX : V → Option Int → Option Int → Hp → VK → Prop := fun x lo hi H Q => ∃ z : Str, x = .str z ∧ z.length ≤ 4000 ∧ Q (.str (sliceS z lo hi)) H
section
variable {X : Cx}
def rStarts : V → List V → Hp → VK → Prop := fun x vs H Q => ∃ z y : Str, x = .str z ∧ vs = [.str y] ∧ Q (.bl (Txt.startswith z y)) H
def rIntS : List V → Hp → VK → Prop := fun xs H Q => ∃ (x : Str) (n : Int), xs = [.str x] ∧ PySem.intText? x = some n ∧ x.length ≤ 640 ∧ Q (.int n) H
def rMulL : R2 := fun x y H Q => ∃ (z : Str) (n : Int), x = .str z ∧ y = .int n ∧ z.length = 1 ∧ 0 ≤ n ∧ n ≤ 1000 ∧ ∀ t : Str, t.length = n.toNat → (∀ c ∈ t.cps.toList, c ∈ z.cps.toList) → Q (.str t) H
theorem repl_all (c : Nat) : ∀ (n : Nat) (a : Array Nat), ((List.replicate n #[c]).foldl (· ++ ·) a) = a ++ (Array.replicate n c)
  | 0, a => by simp
  | n + 1, a => by
    rw [List.replicate_succ, List.foldl_cons, repl_all c n, Array.append_assoc]
    congr 1
    apply Array.toList_inj.mp
    simp [List.replicate_succ]
theorem op_mulL : OpR X (binaryOp .Mult) rMulL := by
  intro pins s σ H x y v u Q I rx ry h
  obtain ⟨z, n, rfl, rfl, hz, h0, h1, q⟩ := h
  obtain ⟨t, rfl⟩ := rx
  obtain ⟨t', rfl⟩ := ry
  refine PySem.P.mul_str (by simp; omega) (fun a _ => ?_) (fun a _ => ?_) ?_
  · rw [hz]
    intro hgt
    have h2 : (1 : Int) ≤ (2 ^ 63 - 1) / n := Int.le_ediv_of_mul_le (by omega) (by omega)
    exact absurd h2 (Int.not_le.mpr hgt)
  · have : z.length * n.toNat ≤ 1000 := by rw [hz]; omega
    exact decide_eq_false (Nat.not_lt.mpr (Nat.le_trans this (Nat.le_of_lt (smaller (by decide)))))
  · split
    · rename_i c
      have : n = 0 := by omega
      subst this
      exact ⟨Nat.le_of_lt (smaller (by decide)), .str _, H, I.tok _, ⟨_, rfl⟩, q Str.empty rfl (fun c hc => by cases hc)⟩
    · split
      · rename_i c c2
        have : n = 1 := by
          rw [hz] at c2
          simpa using c2
        subst this
        exact ⟨.str _, H, I, ⟨_, rfl⟩, q z hz (fun c hc => hc)⟩
      · obtain ⟨⟨l⟩⟩ := z
        match l, hz with
        | [d], _ =>
          have e : (List.replicate n.toNat (⟨⟨[d]⟩⟩ : Str).cps).foldl (· ++ ·) #[] = Array.replicate n.toNat d := by
            have := repl_all d n.toNat #[]
            simpa using this
          have hl : (⟨Array.replicate n.toNat d⟩ : Str).length = n.toNat := by show (Array.replicate n.toNat d).size = _; simp
          show Made.post (Made.str ⟨_⟩) _ _
          rw [e]
          exact ⟨by rw [hl]; exact Nat.le_of_lt (smaller (by omega)), .str _, H, I.tok _, ⟨_, rfl⟩, q _ hl (fun c hc => by
            have : c ∈ List.replicate n.toNat d := by simpa using hc
            have := List.eq_of_mem_replicate this
            subst this
            simp)⟩
end
theorem kit_not {K : PySem.W.Frag} {C D : Addr} (h2 : PySem.W.mroIn K D (.type "object") = some true) (h3 : PySem.W.typeIn K (.ref D) = some (.type "type")) (h : PySem.W.mroIn K C (.ref D) = some false) (hb : (C == D) = false) : PySem.W.kitOne K (.ref C) (.ref D) = some false :=
  kit_own h2 h3 h fun e => by rw [e] at hb; simp at hb
theorem kit_ve {K : PySem.W.Frag} {C : Addr} (h : PySem.W.mroIn K C (.type "ValueError") = some true) : PySem.W.kitOne K (.ref C) (.type "ValueError") = some true := by
  unfold PySem.W.kitOne
  rw [if_neg (by simp)]
  show (if PySem.W.kitMeta "ValueError" = true then PySem.W.subIn K (.ref C) (.type "ValueError") else none) = some true
  rw [if_pos (by decide +kernel)]
  exact h
section
variable {σ : St} {H : Hp} {Q : VK} {D : Ends} {K : PySem.W.Frag}
theorem r_mulL {z : Str} {n : Int} (hz : z.length = 1) (h0 : 0 ≤ n) (h1 : n ≤ 1000) (h : ∀ t : Str, t.length = n.toNat → (∀ c ∈ t.cps.toList, c ∈ z.cps.toList) → Q (.str t) H) : rMulL (.str z) (.int n) H Q := ⟨z, n, rfl, rfl, hz, h0, h1, h⟩
end
end L2

namespace L2
open PySem PySem.Spec PyProof.Rows PySem.W
section
variable {X : Cx} {pins : List (Addr × Obj)} {σ : St} {H : Hp} {s : Shared} {h' : Heap}
theorem Inv.turned2 {t' : Nat} {i1 i2 : Addr} (I : Inv X pins σ H s) (k : ∀ b o, b ≠ i1 → b ≠ i2 → s.heap.get? b = some o → h'.get? b = some o) (f1 : FpOk X pins H i1) (f2 : FpOk X pins H i2) : Inv X pins σ H { s with heap := h', toks := t' } := by
  have nit : ∀ b u, H b = some u → b ≠ i1 ∧ b ≠ i2 := fun b u e => ⟨fun z => (by rw [z, f1.1] at e; cases e), fun z => (by rw [z, f2.1] at e; cases e)⟩
  have nc : ∀ {b : Addr}, b ∉ [i1, i2] → b ≠ i1 ∧ b ≠ i2 := fun {b} h => by simpa using h
  refine I.step (g' := s.gens) (d' := s.drawn) (ch := [i1, i2]) (fun b hb => ?_) (fun b o _ _ hc e _ => k b o (nc hc).1 (nc hc).2 e) (fun b o _ _ hc e _ => ⟨o.slots, k b o (nc hc).1 (nc hc).2 e⟩) (fun _ _ _ _ n => n)
    (fun b o hc e => ⟨o, k b o (nc hc).1 (nc hc).2 e⟩) (fun _ _ e => e) (fun _ _ _ e => e) (fun b ps e => ⟨#[], by rw [e]; simp⟩) (fun m hm => ?_) (fun b u e => ?_) I.bare
  · have e : b = i1 ∨ b = i2 := by simpa using hb
    rcases e with rfl | rfl
    · exact ⟨f1.2.2.2.1, f1.2.1, f1.2.2.2.2.1, f1.2.2.2.2.2⟩
    · exact ⟨f2.2.2.2.1, f2.2.1, f2.2.2.2.2.1, f2.2.2.2.2.2⟩
  · obtain ⟨o, es, ep, ho, r⟩ := hm
    exact ⟨o, es, ep, k _ o (Ne.symm f1.2.1) (Ne.symm f2.2.1) ho, r⟩
  · refine (I.hok b u e).stay (fun c v hc q => k c v ?_ ?_ q) (fun _ q => q) fun _ _ q => q
    · rcases hc with z | z
      · rw [z]; exact (nit b u e).1
      · exact (nit c _ z).1
    · rcases hc with z | z
      · rw [z]; exact (nit b u e).2
      · exact (nit c _ z).2
end
theorem entry_enum_iter : entryFor table "enumerate.__iter__" = some Builtin.«dict_keyiterator.__iter__» :=
  entryFor_alias (id' := "dict_keyiterator.__iter__") (by kernel_rfl) rfl (by decide +kernel) (by kernel_rfl)
def Itn (K : PySem.W.Frag) (a : Addr) : It := ⟨fun i H => ∃ xs x, SqL K H a xs ∧ xs[i]? = some x, fun i H v H' => ∃ t x, (∀ xs, SqL K H a xs → xs[i]? = some x) ∧ v = .ref t ∧ H t = none ∧ H' = upd H t (.tup [.int i, x]), fun i H => ∃ xs, SqL K H a xs ∧ xs.length ≤ i⟩
theorem turn_enum {P : Program} {w : World} {K : PySem.W.Frag} {elts : List Expr} {x1} {pos : Pos} {e it a : Addr} (hne : e ≠ it) :
    Turn P w K (.Tuple elts x1 pos) (Itn K a) [e, it] e (fun i h => (∃ old, IsEnum h e it (i : Nat) old) ∧ h.IsListIter it a i) where
  mem := by simp
  obj := fun i h st b hb => by
    have e' : b = e ∨ b = it := by simpa using hb
    obtain ⟨⟨old, q⟩, o, e1, c, d⟩ := st
    rcases e' with rfl | rfl
    · exact ⟨_, q, fun v z => by cases z⟩
    · exact ⟨o, e1, fun v z => by rw [d] at z; cases z⟩
  keep := fun i h h' st k => ⟨let ⟨old, q⟩ := st.1; ⟨old, k e (by simp) _ q⟩, st.2.at fun o q => k it (by simp) o q⟩
  item := by
    intro X hP hw hK hc i pins s σ H E I hf st hg
    subst hP hw hK
    have fe := hf e (by simp)
    have fi := hf it (by simp)
    obtain ⟨xs, x, hq, hx⟩ := hg
    obtain ⟨its, rv, p, hz⟩ := I.list hq
    obtain ⟨u, hu, ru⟩ := rv.get hx
    obtain ⟨⟨old, he⟩, hit⟩ := st
    have hel : e < s.heap.objs.size := Heap.lt_size he
    have hil : it < s.heap.objs.size := by obtain ⟨o, ho, _⟩ := id hit; exact Heap.lt_size ho
    have hn : H s.heap.objs.size = none := I.hok.fresh (Nat.le_refl _)
    refine wpAny_pyNext_enum_item he hit p.isList (x := u) (by simpa using hu) hne fun h' heo hit' ht hz' kk => ?_
    refine ⟨_, rfl, wpAny_letOwnedTupleGo_enum (s := { s with heap := h', toks := s.toks + 1 }) heo fun h2 he2 sb => ?_⟩
    replace sb : Heap.SameBut e h' h2 := sb
    let tb : Obj := { cls := .type "tuple", data := .seq #[.int i s.toks, u] }
    have I1 : Inv X pins σ (upd H s.heap.objs.size (.tup [.int i, x])) { s with heap := s.heap.push tb } :=
      I.laid (t' := s.toks) (fun b u e => Heap.get?_push_of_some _ e) (Nat.le_refl _) (show ObjOk X.prog X.w _ _ _ (.tup [.int i, x]) from ⟨by rw [sizeLine_eq]; simp, [.int i s.toks, u], .cons ⟨_, rfl⟩ (.cons ru .nil), IsTup.new _ _⟩)
    have hne' : upd H s.heap.objs.size (.tup [.int i, x]) e = none := by rw [upd_ne (Nat.ne_of_lt hel)]; exact fe.1
    have hni' : upd H s.heap.objs.size (.tup [.int i, x]) it = none := by rw [upd_ne (Nat.ne_of_lt hil)]; exact fi.1
    have I2 : Inv X pins σ (upd H s.heap.objs.size (.tup [.int i, x])) { s with heap := h2, toks := s.toks + 1 } := by
      refine Inv.turned2 (s := { s with heap := s.heap.push tb }) (h' := h2) (t' := s.toks + 1) (i1 := e) (i2 := it) I1 (fun b u' hb1 hb2 q => ?_) ⟨hne', fe.2⟩ ⟨hni', fi.2⟩
      by_cases hbn : b = s.heap.objs.size
      · subst hbn
        have e0 : (s.heap.push tb).get? s.heap.objs.size = some tb := Heap.get?_push_size _ rfl
        have e1 := e0.symm.trans q
        cases e1
        exact (sb.2 _ hb1).trans ht
      · exact (sb.2 _ hb1).trans (kk b u' hb1 hb2 (push_other q hbn))
    refine ⟨.ref s.heap.objs.size, _, I2, rfl, ⟨_, x, fun ys hy => by rw [I.list_inj hy hq]; exact hx, rfl, hn, rfl⟩, ⟨⟨_, he2⟩, hit'.at fun o q => (sb.2 it (Ne.symm hne)).trans q⟩, fun b hb => ?_⟩
    have e' : b = e ∨ b = it := by simpa using hb
    rcases e' with rfl | rfl
    · exact hne'
    · exact hni'
  done := by
    intro X hP hw hK hc i pins s σ H E I hf st hg
    subst hP hw hK
    obtain ⟨f0, f1, f2, f3, f4, f5⟩ := hf it (by simp)
    obtain ⟨xs, hq, hx⟩ := hg
    obtain ⟨its, rv, p, hz⟩ := I.list hq
    have hl := rv.length
    obtain ⟨⟨old, he⟩, hit⟩ := st
    exact wpAny_pyNext_enum_end (I.ok.hd hc) he hit p.isList (by simp; omega) fun h' eb => ⟨rfl, I.turned (t' := s.toks) (fun b o hb e => eb b o hb e) f0 f1 f3 f4 f5⟩
  self := fun A i s Q E st q => by
    obtain ⟨⟨old, he⟩, hit⟩ := st
    have hT : s.TypeIs (.ref e) "enumerate" := ⟨_, he, rfl⟩
    refine wpAny_pyIter_slot hT F.slot_enumerate_iter (wpAny_call_entry F.slot_enumerate_iter hT entry_enum_iter ?_ (F.args_enumerate_iter_1 _))
    show wpAny _ _ (ret (.ref e)) _ _ s
    exact wpAny_pure ⟨_, rfl, "enumerate", _, hT, F.slot_enumerate_next.lookup, q⟩
def iEnum (K : PySem.W.Frag) (ta : TA) : TI := fun σ H R => ta σ H fun vs H1 => ∃ a, vs = [.ref a] ∧ (∃ xs, SqL K H1 a xs) ∧ R (Itn K a) H1
theorem pi_enum {X : Cx} {elts : List Expr} {x1} {tpos : Pos} {a : Expr} {ta : TA} {p pos : Pos} (hg : Gl X "enumerate") (hm : X.mg "enumerate" = none) (ha : PA X [a] ta) (hs : starEach [a] X.env = [(false, eval a X.env)] := by rfl) :
    PI X (.Tuple elts x1 tpos) (.Call (.Name "enumerate" p) [a] [] pos) (iEnum X.K ta) := by
  intro pins s σ H R I h
  refine Call_ (ld_blt I hg hm boot_enumerate (PyProof.Rows.callWith_type1 (thn (ha pos pins s σ H _ I h) fun us s1 ⟨vs, H1, I1, r1, q1⟩ => ?_) hs rfl))
  obtain ⟨l, e, ⟨xs, hq⟩, q⟩ := q1
  subst e
  cases r1 with
  | cons r rr =>
    cases rr
    cases r
    obtain ⟨its, rv, p, hz⟩ := I1.list hq
    refine call_enumerate_list p.isList fun h' he hit hsz hk => ?_
    have hT : (⟨h', s1.gens, s1.drawn, s1.toks, s1.os⟩ : Shared).TypeIs (.ref (s1.heap.objs.size + 1)) "enumerate" := ⟨_, he, rfl⟩
    refine wpAny_pyIter_slot hT F.slot_enumerate_iter (wpAny_call_entry F.slot_enumerate_iter hT entry_enum_iter ?_ (F.args_enumerate_iter_1 _))
    show wpAny _ _ (ret (.ref (s1.heap.objs.size + 1))) _ _ _
    refine wpAny_pure ⟨_, rfl, "enumerate", _, hT, F.slot_enumerate_next.lookup, ?_⟩
    refine ⟨s1.heap.objs.size + 1, [s1.heap.objs.size + 1, s1.heap.objs.size], _, _, H1, rfl, I1.kept (t' := s1.toks) hk, turn_enum (a := l) (Nat.succ_ne_self _), ⟨⟨_, he⟩, hit⟩, fun b hb => ?_, q⟩
    have e : b = s1.heap.objs.size + 1 ∨ b = s1.heap.objs.size := by simpa using hb
    rcases e with rfl | rfl
    · exact I1.fpOk (Nat.le_succ _) (I1.hok.fresh (Nat.le_succ _))
    · exact I1.fpOk (Nat.le_refl _) (I1.hok.fresh (Nat.le_refl _))
end L2
namespace L2
open PySem PySem.Spec PyProof.Rows PySem.W
section
variable {X : Cx}
def rMaxL : List V → Hp → VK → Prop := fun xs H Q => ∃ (v : V) (ns : List Int), xs = [v] ∧ Dv H v (.list (ns.map PyData.int)) ∧ 0 < ns.length ∧ ∀ m ∈ ns, (∀ k ∈ ns, k ≤ m) → Q (.int m) H
def rSumV : V → Hp → VK → Prop := fun x H Q => ∃ (p : Addr) (m : List (Str × PyData)) (ns : List Int), x = .ref p ∧ DAt H p m ∧ m.map (·.2) = ns.map PyData.int ∧ Q (.int ns.sum) H
def tSumV (te : TE) : TE := fun σ H Q => te σ H fun x H1 => rSumV x H1 Q
end
section
variable {σ : St} {H : Hp} {Q : VK}
end
end L2
namespace L2
open PySem PySem.Spec PyProof.Rows PySem.W
section
variable {σ : St} {H : Hp} {Q : VK} {K : PySem.W.Frag} {v : V}
end
end L2

namespace L2
open PySem
section
variable {H : Hp} {Q : VK} {K : PySem.W.Frag}
theorem r_ixLx {z : Str} {i : Int} (hz : z.length ≤ 4000) (h0 : 0 ≤ i) (h1 : i < z.length) (h : ∀ c, z.cps.toList[i.toNat]? = some c → Q (.str ⟨#[c]⟩) H) : rIxK K (.str z) (.int i) H Q := by
  obtain ⟨m, rfl⟩ := Int.eq_ofNat_of_zero_le h0
  have hi : m < z.cps.toList.length := by
    have : z.length = z.cps.toList.length := by show z.cps.size = _; simp
    omega
  exact r_ixSt (Nat.le_of_lt (smaller hz)) (atI_nat (List.getElem?_eq_getElem hi)) (h _ (List.getElem?_eq_getElem hi))
end
end L2

namespace L2
open PySem PySem.Spec PyProof.Rows PySem.W
theorem best_lt (num : Nat → Int) : ∀ k, argBest (fun i j => decide (num i < num j)) k ≤ k ∧ ∀ j, j ≤ k → num (argBest (fun i j => decide (num i < num j)) k) ≤ num j
  | 0 => ⟨Nat.le_refl _, fun j hj => by have : j = 0 := by omega
                                        subst this; exact Int.le_refl _⟩
  | k + 1 => by
    obtain ⟨h1, h2⟩ := best_lt num k
    unfold argBest
    by_cases h : num (k + 1) < num (argBest (fun i j => decide (num i < num j)) k)
    · rw [if_pos (decide_eq_true h)]
      refine ⟨Nat.le_refl _, fun j hj => ?_⟩
      by_cases hk : j = k + 1
      · subst hk; exact Int.le_refl _
      · exact Int.le_trans (Int.le_of_lt h) (h2 j (by omega))
    · rw [if_neg (by simpa using h)]
      refine ⟨by omega, fun j hj => ?_⟩
      by_cases hk : j = k + 1
      · subst hk; omega
      · exact h2 j (by omega)
section
variable {X : Cx}
theorem vals_at {H1 : Hp} {kvs : List (Key × V)} {vs : List (Key × Value)} {m : List (Str × PyData)} {ns : List Int} {i : Nat} {k : Key} {v : Value} (hlen : vs.length = kvs.length) (kv : KV kvs vs) (dk : DKs H1 kvs m) (hmn : m.map (·.2) = ns.map PyData.int) (hv : vs[i]? = some (k, v)) : ∃ t, v = .int (ns.getD i 0) t := by
  have hnl : ns.length = kvs.length := by
    have := congrArg List.length hmn
    rw [List.length_map, List.length_map] at this
    rw [← this]; exact dk.length.symm
  have hi : i < kvs.length := by rw [← hlen]; exact (List.getElem?_eq_some_iff.mp hv).1
  obtain ⟨y, hy, hy2⟩ := paired_get kv (List.getElem?_eq_getElem hi)
  rw [hv] at hy
  cases hy
  obtain ⟨k', dd, hm', hkc, hdv⟩ := dk.getK (List.getElem?_eq_getElem hi)
  have hin : i < ns.length := by omega
  have hdd : dd = .int (ns.getD i 0) := by
    have e1 : (m.map (·.2))[i]? = some dd := by rw [List.getElem?_map, hm']; rfl
    rw [hmn, List.getElem?_map, List.getElem?_eq_getElem hin] at e1
    rw [List.getD_eq_getElem?_getD, List.getElem?_eq_getElem hin]
    exact (Option.some.inj e1).symm
  subst hdd
  have hq := hdv.int_inv
  have r2 := hy2.2
  rw [hq] at r2
  obtain ⟨t, ht⟩ := r2
  exact ⟨t, ht⟩
def rMinV : V → Hp → VK → Prop := fun x H Q => ∃ (p : Addr) (m : List (Str × PyData)) (ns : List Int), x = .ref p ∧ DAt H p m ∧ m.map (·.2) = ns.map PyData.int ∧ 0 < ns.length ∧ ∀ k ∈ ns, (∀ j ∈ ns, k ≤ j) → Q (.int k) H
def tMinV (te : TE) : TE := fun σ H Q => te σ H fun x H1 => rMinV x H1 Q
theorem pe_minV {e : Expr} {te : TE} {p pos apos cpos : Pos} (he : PE X e te) (hc : X.calm = true) (hg : Gl X "min") (hm : X.mg "min" = none)
    (hbase : attributeBase e "values" X.env (eval e X.env) = eval e X.env := by rfl) (hline : (apos.endLine == cpos.line) = true := by rfl)
    (h2 : starEach [.Call (.Attribute e "values" apos) [] [] cpos] X.env = (false, eval (.Call (.Attribute e "values" apos) [] [] cpos) X.env) :: starEach [] X.env := by rfl) :
    PE X (.Call (.Name "min" p) [.Call (.Attribute e "values" apos) [] [] cpos] [] pos) (tMinV te) := by
  intro pins s σ H Q I h
  refine wpAny_Call_Name_kw (ld_blt I hg hm boot_min ?_ (by decide) (by decide))
  refine PyProof.Rows.callWith_builtin1 ?_ h2 rfl
  rw [h2]
  show wpAny _ _ (spliced ((false, eval (.Call (.Attribute e "values" apos) [] [] cpos) X.env) :: backTo pos (starEach [] X.env))) _ _ s
  refine Calls.spliced_cons (wpAny_Call_method0_late hbase hline (thn (he pins s σ H _ I h) fun v s1 ⟨y, H1, I1, r1, q1⟩ => ?_))
  obtain ⟨d, m, ns, rfl, ⟨kvs, hd, dk⟩, hmn, hpos, q⟩ := q1
  obtain ⟨h1, h2⟩ := tyV_is I1 (T := "dict") r1 (.inr (.inr (.inl ⟨rfl, .inl ⟨kvs, hd⟩⟩)))
  cases r1
  refine ⟨"dict", "dict.values", PySem.F.plainAttrs_dict, PySem.F.slot_dict_values, PySem.F.type_dict_values, h1, h2, Calls.callWith_builtin rfl (PySem.evalArgs_none ?_)⟩
  obtain ⟨_, hs, vs, kv, o, es, ep, ho, a2, a3, a4⟩ := (show ObjOk X.prog X.w H1 s1.heap d (.dK kvs) from I1.hok d _ hd)
  have da : s1.heap.DictAt (mixKind X.prog X.w) d vs ep := ⟨o, es, ho, a2, a3, a4⟩
  have hlt : d < s1.heap.objs.size := Heap.lt_size ho
  have hlen : vs.length = kvs.length := kv.length.symm
  refine call_meetsIn PySem.F.slot_dict_values da.dictOf.typeIs PySem.F.entry_dict_values (PySem.F.args_dict_values_1 _) (meets_dict_values (mixKind X.prog X.w) d hs) ⟨⟨vs, da.dictOf⟩, ?_⟩
  refine Calls.spliced_nil ?_
  have hsz : (s1.heap.push { cls := .type "dict_values", data := .fields #[.ref d] }).objs.size = s1.heap.objs.size + 1 := Heap.size_push ..
  have hA : X.A.in1.handled = none := I1.ok.hd hc
  have hnl : ns.length = kvs.length := by
    have := congrArg List.length hmn
    rw [List.length_map, List.length_map] at this
    rw [← this]; exact dk.length.symm
  refine call_min_walk (wpAny_pyIter_values (v := s1.heap.objs.size) ⟨_, Heap.get?_push_size _ rfl, rfl, rfl⟩ (da.push _) ?_)
  refine ⟨_, _, _, _, _, _, fun i j => decide (ns.getD i 0 < ns.getD j 0), rfl, Walks.dictValues (knd := mixKind X.prog X.w) hA _ d (Nat.ne_of_lt (by rw [hsz]; exact Nat.lt_succ_of_lt hlt)) vs ep, ⟨⟨_, Heap.get?_push_size _ rfl, rfl, rfl⟩, (da.push _).push _⟩, ?_, by omega, CmpOf.ints_lt (fun i => ns.getD i 0) ?_, ?_⟩
  · intro b hb
    rw [Heap.size_push]
    have : b = (s1.heap.push { cls := .type "dict_values", data := .fields #[.ref d] }).objs.size ∨ b = d := by simpa using hb
    rcases this with rfl | rfl
    · exact Nat.lt_succ_self _
    · rw [hsz]; exact Nat.lt_succ_of_lt (Nat.lt_succ_of_lt hlt)
  · rintro i v ⟨k, hv⟩
    exact vals_at hlen kv dk hmn hv
  · rintro v h' tk ⟨k, hv⟩ hk
    have b := best_lt (fun i => ns.getD i 0) (vs.length - 1)
    generalize argBest (fun i j => decide (ns.getD i 0 < ns.getD j 0)) (vs.length - 1) = ix at b hv
    obtain ⟨b1, b2⟩ := b
    obtain ⟨t, rfl⟩ := vals_at hlen kv dk hmn hv
    have I2 : Inv X pins σ H1 { s1 with heap := s1.heap.push { cls := .type "dict_values", data := .fields #[.ref d] } } := I1.kept (t' := s1.toks) fun b o e => Heap.get?_push_of_some _ e
    have fp := I2.fpOk (H' := H1) (Nat.le_refl _) (I2.hok.fresh (Nat.le_refl _))
    have I3 := I2.turned (t' := tk) (h' := h') (it := (s1.heap.push { cls := .type "dict_values", data := .fields #[.ref d] }).objs.size) (fun b o hb e => hk b o (by simpa using hb) (Heap.get?_push_of_some _ e)) fp.1 fp.2.1 fp.2.2.2.1 fp.2.2.2.2.1 fp.2.2.2.2.2
    have hb : ix < ns.length := by omega
    refine ⟨.int _, H1, I3, ⟨t, rfl⟩, q _ ?_ ?_⟩
    · rw [List.getD_eq_getElem?_getD, List.getElem?_eq_getElem hb]; exact List.getElem_mem hb
    · intro k hk
      obtain ⟨j, hj, rfl⟩ := List.getElem_of_mem hk
      have := b2 j (by omega)
      rwa [List.getD_eq_getElem?_getD (i := j), List.getElem?_eq_getElem hj] at this
end
section
variable {σ : St} {H : Hp} {Q : VK}
theorem r_minVT {te : TE} (h : te σ H fun x H1 => rMinV x H1 Q) : tMinV te σ H Q := h
theorem r_minV {p : Addr} {m : List (Str × PyData)} {ns : List Int} (hp : DAt H p m) (hm : m.map (·.2) = ns.map PyData.int) (hl : 0 < ns.length) (h : ∀ k ∈ ns, (∀ j ∈ ns, k ≤ j) → Q (.int k) H) : rMinV (.ref p) H Q := ⟨p, m, ns, rfl, hp, hm, hl, h⟩
end
end L2
namespace L2
open PySem PySem.Spec PyProof.Rows PySem.W
def pairD (k : Int × Str) : PyData := .tuple [.int k.1, .str k.2]
def kfH (H : Hp) : V → Int × Str
  | .ref a => match H a with
    | some (.tup [.int i, .str x]) => (i, x)
    | _ => (0, Str.empty)
  | _ => (0, Str.empty)
theorem kfH_of {H : Hp} {v : V} {k : Int × Str} (h : Dv H v (pairD k)) : kfH H v = k := by
  unfold pairD at h
  cases h with
  | tup ha r =>
    cases r with
    | cons h1 r =>
      cases r with
      | cons h2 r =>
        cases r
        cases h1; cases h2
        simp only [kfH, ha]
theorem kfH_all {H : Hp} : ∀ {xs : List V} {ks : List (Int × Str)}, Dvs H xs (ks.map pairD) → Dvs H xs (xs.map fun v => .tuple [.int (kfH H v).1, .str (kfH H v).2])
  | _, [], .nil => .nil
  | _, _ :: _, .cons h r => .cons (by show Dv H _ (.tuple [.int (kfH H _).1, .str (kfH H _).2]); rw [kfH_of h]; exact h) (kfH_all r)
section
variable {X : Cx} {pins : List (Addr × Obj)} {σ : St} {H : Hp} {s : Shared}
theorem sorted_pairs {l : Addr} {xs : List V} {kf : V → Int × Str} {Q : VK} {E : Value → Shared → Prop} (I : Inv X pins σ H s) (hl : SqL X.K H l xs) (h64 : xs.length < 64) (dv : Dvs H xs (xs.map fun v => .tuple [.int (kf v).1, .str (kf v).2])) (fin : SortFin X pins σ H ltIS kf xs Q) :
    wpAny (model X.prog X.w) X.A (call (.builtin "sorted") [.ref l]) (EP X pins σ Q) E s := by
  have hsl : (64 : Nat) ≤ sizeLine := by decide
  obtain ⟨vs, rv, p, hz⟩ := I.list hl
  have lx := rv.length
  refine Calls.call_function_entry kind_sorted plain_sorted entry_sorted (args_sorted1 _) ?_
  unfold Builtin.«sorted»
  refine wpAny_bind (m := checkCount "sorted" 1 1 _) (wpAny_pure ?_)
  refine wpAny_bind (collect_list p.isList ?_ (by omega))
  refine wpAny_bind (wpAny_newList ?_ (by omega))
  have fp0 : FpOk X pins H s.heap.objs.size := I.fpOk (Nat.le_refl _) (I.hok.fresh (Nat.le_refl _))
  have I2 : Inv X pins σ H { s with heap := (s.heap.push (seqObj "list" #[] 0)).update s.heap.objs.size (Obj.mapSeq (· ++ vs.toArray)) } := (I.push1 (o := seqObj "list" #[] 0)).upd1 fp0
  have hsz : ((s.heap.push (seqObj "list" #[] 0)).update s.heap.objs.size (Obj.mapSeq (· ++ vs.toArray))).objs.size = s.heap.objs.size + 1 := by rw [Heap.size_update, size_push']
  generalize hG : (s.heap.push (seqObj "list" #[] 0)).update s.heap.objs.size (Obj.mapSeq (· ++ vs.toArray)) = h2 at I2 hsz ⊢
  have hoL : (h2.push (seqObj "list" vs.toArray 0)).get? h2.objs.size = some (seqObj "list" vs.toArray 0) := Heap.get?_push_size _ rfl
  have I3 : Inv X pins σ H { s with heap := h2.push (seqObj "list" vs.toArray 0) } := I2.push1
  have fa : FpOk X pins H h2.objs.size := I2.fpOk (Nat.le_refl _) (I2.hok.fresh (Nat.le_refl _))
  have hn0 : X.s₀.heap.objs.size ≤ h2.objs.size := I2.sz
  show wpAny _ _ _ _ _ { s with heap := h2.push (seqObj "list" vs.toArray 0) }
  generalize h2.objs.size = a at *
  refine wpAny_bind (wpAny_holding (wpAny_call_entry slot_list_sort ⟨_, hoL, rfl⟩ entry_list_sort ?body (args_list_sort _)))
  case body =>
    show wpAny (model X.prog X.w) X.A.in1.in1 (Builtin.«list.sort» ⟨[.ref a], []⟩) _ _ _
    rw [list_sort_plain]
    generalize h2.push (seqObj "list" vs.toArray 0) = h3 at *
    refine wpAny_bind (listItems_at hoL rfl ?_)
    refine wpAny_bind (listUpdate_at hoL rfl ?_ (by rw [List.size_toArray]; omega) (Nat.zero_le _))
    have I4 : Inv X pins σ H { s with heap := h3.update a (Obj.mapSeq fun _ => (#[] : Array Value)) } := I3.upd1 fa
    obtain ⟨e1, oa⟩ : ∃ e1, (h3.update a (Obj.mapSeq fun _ => (#[] : Array Value))).get? a = some (seqObj "list" #[] e1) := ⟨_, get?_update_seq hoL fun _ => #[]⟩
    generalize h3.update a (Obj.mapSeq fun _ => (#[] : Array Value)) = h4 at *
    refine wpAny_bind (seqEpoch_at oa rfl ?_)
    refine wpAny_bind (wpAny_newTuple ?_ (by show vs.length ≤ _; omega))
    have I5 : Inv X pins σ H { s with heap := h4.push (seqObj "tuple" vs.toArray 0) } := I4.push1
    have oa5 : (h4.push (seqObj "tuple" vs.toArray 0)).get? a = some (seqObj "list" #[] e1) := Heap.get?_push_of_some _ oa
    show wpAny _ _ _ _ _ { s with heap := h4.push (seqObj "tuple" vs.toArray 0) }
    generalize h4.push (seqObj "tuple" vs.toArray 0) = h5 at *
    refine wpAny_bind (wpAny_newList ?_ (Nat.zero_le _))
    have I6 : Inv X pins σ H { s with heap := h5.push (seqObj "list" #[] 0) } := I5.push1
    have oa6 : (h5.push (seqObj "list" #[] 0)).get? a = some (seqObj "list" #[] e1) := Heap.get?_push_of_some _ oa5
    refine wpAny_holding ?_
    show wpAny _ _ _ _ _ { s with heap := h5.push (seqObj "list" #[] 0) }
    generalize h5.push (seqObj "list" #[] 0) = h6 at *
    dsimp only
    by_cases hlt : vs.toArray.size < 2
    · rw [if_pos hlt, if_pos hlt]
      refine wpAny_bind (wpAny_pure ?_)
      rw [StateT.run_pure]
      refine wpAny_bind (wpAny_pure ?_)
      dsimp only
      have hout : (arrOf (SortSt.mk' general' (vs.toArray.zip vs.toArray) #[] 7 none)).map (·.2) = List.toArray vs := by
        show (vs.toArray.zip vs.toArray).map (·.2) = List.toArray vs
        apply Array.toList_inj.mp
        simp [List.map_snd_zip]
      rw [hout]
      refine wpAny_bind (seqEpoch_at oa6 rfl ?_)
      refine wpAny_bind (listUpdate_at oa6 rfl ?_ (Nat.zero_le _) (by show (List.toArray vs).size ≤ _; rw [List.size_toArray]; omega))
      simp only [bne_self_eq_false, Bool.false_eq_true, if_false]
      have I7 := (I6.upd1 (f := Obj.mapSeq fun _ => List.toArray vs) fa).track fa hn0 (by rw [rv.length]; omega) rv (get?_update_seq oa6 fun _ => List.toArray vs)
      refine wpAny_pure ⟨_, rfl, wpAny_pure ⟨_, rfl, .ref a, _, I7, rfl, fin a xs H (Same.refl _) fa.1 fa.1 ⟨List.Perm.refl _, ?_⟩⟩⟩
      rw [List.size_toArray] at hlt
      match xs, lx with
      | [], _ => exact .nil
      | [_], _ => exact List.pairwise_singleton _ _
      | _ :: _ :: _, lx => simp at lx; omega
    · rw [if_neg hlt, if_neg hlt]
      rw [List.size_toArray] at hlt
      obtain ⟨fs, k1, k2, k3⟩ := kinds_pair I6 rv dv
      refine wpAny_bind (kat_kind k1 (by omega) k3 (by decide) ?_)
      refine wpAny_bind (wpAny_mono (kat_run (Q := fun st' s2 => s2 = { s with heap := h6 } ∧ ∃ p : Array Nat, Ix xs.length p ∧ arrOf st' = p.map (kas_item ((List.toArray vs).zip (List.toArray vs))) ∧ failedOf st' = none ∧ Up (fun i j => ltIS (kf (xs.getD i .non)) (kf (xs.getD j .non))) p xs.length)
        (G := fun p s2 => s2 = { s with heap := h6 } ∧ Ix xs.length p ∧ Up (fun i j => ltIS (kf (xs.getD i .non)) (kf (xs.getD j .non))) p xs.length) rfl (by omega) (by omega) (fun p st' s2 a1 a2 a3 ⟨a4, a5, a6⟩ => ⟨a4, p, a5, a2, a3, a6⟩) ?_) ?_ fun _ _ z => z)
      · rw [show vs.length = xs.length by omega]
        refine sort_ok (lt := fun i j => ltIS (kf (xs.getD i .non)) (kf (xs.getD j .non))) (S := fun z => z = { s with heap := h6 }) ⟨fun _ => ltIS_irr _, fun _ _ => ltIS_asy, fun _ _ _ => ltIS_ntr⟩ (asks_pair I6 rv dv) (by omega) (fun p s2 hs hp hu => ⟨hs, hp, hu⟩) _ rfl
      · rintro ⟨⟨⟩, st'⟩ s2 ⟨rfl, p, hp, har, hf, hu⟩
        dsimp only
        rw [kat_snds rfl har]
        have ho : (p.toList.map fun i => vs.getD i Value.none).length < 64 := by simp [hp.sz]; omega
        refine wpAny_bind (seqEpoch_at oa6 rfl ?_)
        refine wpAny_bind (listUpdate_at oa6 rfl ?_ (Nat.zero_le _) (by show (List.toArray (p.toList.map fun i => vs.getD i Value.none)).size ≤ _; rw [List.size_toArray]; omega))
        rw [hf]
        simp only [bne_self_eq_false, Bool.false_eq_true, if_false]
        have rv2 := vals_mapD rv p.toList
        have I7 := (I6.upd1 (f := Obj.mapSeq fun _ => List.toArray (p.toList.map fun i => vs.getD i Value.none)) fa).track fa hn0 (by rw [rv2.length]; omega) rv2 (get?_update_seq oa6 fun _ => List.toArray (p.toList.map fun i => vs.getD i Value.none))
        exact wpAny_pure ⟨_, rfl, wpAny_pure ⟨_, rfl, .ref a, _, I7, rfl, fin a _ H (Same.refl _) fa.1 fa.1 (order_of hp hu)⟩⟩
def rSortP : List V → Hp → VK → Prop := fun xs H Q => ∃ (v : V) (ks : List (Int × Str)), xs = [v] ∧ Dv H v (.list (ks.map pairD)) ∧ ks.length < 64 ∧ ∀ q H' (ks' : List (Int × Str)), Same H H' → H q = none → ks'.Perm ks → ks'.Pairwise (fun c d => ltIS d c = false) → LAt H' q (ks'.map pairD) → Q (.ref q) H'
theorem call_sortP : CallR X (.builtin "sorted") rSortP := by
  intro pins s σ H xs us Q I r h
  obtain ⟨v, ks, rfl, hd, hl, q⟩ := h
  obtain ⟨u, rfl, ru⟩ := vals1 r
  obtain ⟨p, ys, rfl, e, dv⟩ := hd.lst_inv
  cases ru
  refine sorted_pairs I (e X.K) (by rw [dv.length, List.length_map]; exact hl) (kfH_all dv) fun a zs H' sm hn hn' ord => ?_
  obtain ⟨pm, pw⟩ := ord
  obtain ⟨ks', pc, dv'⟩ := dv.perm pm
  have sm2 : Same H (upd H' a (.lst zs)) := sm.trans (same_upd hn')
  exact q a _ ks' sm2 hn pc (Dvs.pairwise (R := fun a b => ltIS b a = false) (key := fun k => k) (fun v c hv => kfH_of hv) dv' pw) ⟨zs, upd_same, dv'.keeps sm2, immAll_map (fun _ => rfl) _⟩
end
section
variable {σ : St} {H : Hp} {Q : VK}
theorem r_sortP {v : V} {ks : List (Int × Str)} (hp : Dv H v (.list (ks.map pairD))) (hl : ks.length < 64) (h : ∀ q H' (ks' : List (Int × Str)), Same H H' → H q = none → ks'.Perm ks → ks'.Pairwise (fun c d => ltIS d c = false) → LAt H' q (ks'.map pairD) → Q (.ref q) H') : rSortP [v] H Q := ⟨v, ks, rfl, hp, hl, h⟩
end
end L2
namespace L2
open PySem PySem.Spec PyProof.Rows PySem.W
section
variable {σ : St} {H : Hp} {Q : VK} {K : PySem.W.Frag} {p : Addr} {m : List (Str × PyData)} {k : Str}
theorem r_lcI {n : Nat} {tl : TE} {g : TG} {tc : TT} {te : TE} (hp : DAt H p m) (htl : ∀ R : V → Hp → Prop, R (.ref p) H → tl σ H R) (pf : Str × PyData → Bool) (fd : Str × PyData → PyData) (hlen : m.length ≤ 4000) (hi : ∀ c, Imm (fd c) = true)
    (turn : ∀ x c Hf H' (N : Option V → Hp → Prop), c ∈ m → Mv [p] H Hf → DRd Hf p m → Same Hf H' → Dv H' x (.tuple [.str c.1, c.2]) → (pf c = true → ∀ y H4, Same H' H4 → Dv H4 y (fd c) → N (some y) H4) → (pf c = false → ∀ H3, Same H' H3 → N none H3) →
      g x (List.replicate n none ++ σ) H' fun σ2 H2 => tc σ2 H2 fun b H3 => LCT te N σ2 b H3)
    (kk : ∀ q H', Same H H' → H q = none → LAt H' q ((m.filter pf).map fd) → Q (.ref q) H') : tThaw (tLC n (iItems tl) g tc te) σ H Q := by
  obtain ⟨kvs, e, dk⟩ := hp
  refine ⟨p, kvs, e, htl _ ⟨p, kvs, rfl, e, fun o => ?_⟩⟩
  have mv : Mv [p] H (upd H p (.frz o (.dK kvs))) := .of_upd e (by intro _ z; cases z)
  have rd : DRd (upd H p (.frz o (.dK kvs))) p m := ⟨kvs, .inr ⟨o, upd_same⟩, dk.imm mv.tp⟩
  have hl : kvs.length = m.length := dk.length
  refine ⟨fun i j acc H' => i ≤ m.length ∧ j = m.length - i ∧ Same (upd H p (.frz o (.dK kvs))) H' ∧ Dvs H' acc (((m.take i).filter pf).map fd), ⟨m.length, Nat.zero_le _, rfl, Same.refl _, by simpa using Dvs.nil⟩, ?_⟩
  rintro i j acc H' ⟨hi1, rfl, sm, hacc⟩
  have hfz : H' p = some (.frz o (.dK kvs)) := sm _ _ upd_same
  have hal : acc.length ≤ m.length := by
    rw [hacc.length, List.length_map]
    refine Nat.le_trans (List.length_filter_le _ _) ?_
    rw [List.length_take]
    omega
  by_cases hc : i = m.length
  · left
    refine ⟨⟨by omega, hfz⟩, fun q hq => ?_⟩
    have hpq : p ≠ q := ne_of_none hfz hq
    have tk : m.take i = m := List.take_of_length_le (by omega)
    rw [tk] at hacc
    have ups : upd (upd H' q (.lst acc)) p (.dK kvs) q = some (.lst acc) := by rw [upd_ne (Ne.symm hpq), upd_same]
    refine ⟨⟨o, by rw [upd_ne hpq]; exact hfz⟩, kk q _ (fun a u z => ?_) ?_ ⟨acc, ups, hacc.imm (fun a xs z => ?_) (immAll_map hi _), immAll_map hi _⟩⟩
    · by_cases ha : a = p
      · subst ha; rw [e] at z; cases z; exact upd_same
      · have z1 : H' a = some u := sm _ _ (by rw [upd_ne ha]; exact z)
        rw [upd_ne ha, upd_ne (ne_of_none z1 hq)]; exact z1
    · cases hz : H q with
      | none => rfl
      | some u =>
        have : H' q = some u := sm _ _ (by rw [upd_ne (Ne.symm hpq)]; exact hz)
        rw [hq] at this; cases this
    · rw [upd_ne (ne_of z hfz (by intro y; cases y)), upd_ne (ne_of_none z hq)]; exact z
  · right
    have hlt : i < m.length := by omega
    refine ⟨⟨by omega, hfz⟩, smaller (by omega), fun x H2 hy => ?_⟩
    obtain ⟨t, kv, hkv, rfl, ht, rfl⟩ := hy
    obtain ⟨c, d, hm, hkc, hdv⟩ := dk.getK hkv
    have htk : m.take (i + 1) = m.take i ++ [(c, d)] := by rw [List.take_add_one, hm]; rfl
    have smt : Same H' (upd H' t (.tup [kV kv.1, kv.2])) := same_upd ht
    have hdv2 : Dv H' kv.2 d := ((dk.imm mv.tp).imm (fun a xs z => sm a _ z)).getK hkv |> fun ⟨c', d', hm', _, h'⟩ => by
      rw [hm] at hm'; cases hm'; exact h'
    have hx : Dv (upd H' t (.tup [kV kv.1, kv.2])) (.ref t) (.tuple [.str c, d]) := by
      have e1 : kV kv.1 = .str c := by rw [hkc]; rfl
      rw [e1] at smt ⊢
      exact .tup upd_same (.cons (.str _) (.cons (hdv2.keeps smt) .nil))
    have sm2 := sm.trans smt
    refine turn (.ref t) (c, d) _ _ (fun r H4 => match r with | some y => ∃ j', j' < m.length - i ∧ i + 1 ≤ m.length ∧ j' = m.length - (i + 1) ∧ Same (upd H p (.frz o (.dK kvs))) H4 ∧ Dvs H4 (acc ++ [y]) (((m.take (i + 1)).filter pf).map fd) | none => ∃ j', j' < m.length - i ∧ i + 1 ≤ m.length ∧ j' = m.length - (i + 1) ∧ Same (upd H p (.frz o (.dK kvs))) H4 ∧ Dvs H4 acc (((m.take (i + 1)).filter pf).map fd))
      (List.mem_of_getElem? hm) mv rd sm2 hx (fun hb y H4 s4 d4 => ⟨m.length - (i + 1), by omega, hlt, rfl, sm2.trans s4, ?_⟩) (fun hb H3 s3 => ⟨m.length - (i + 1), by omega, hlt, rfl, sm2.trans s3, ?_⟩)
    · rw [htk, List.filter_append, List.map_append]
      simp only [List.filter_cons, hb, if_true, List.filter_nil, List.map_cons, List.map_nil]
      exact Dvs.append (hacc.keeps (smt.trans s4)) (.cons d4 .nil)
    · rw [htk, List.filter_append, List.map_append]
      simp only [List.filter_cons, hb, Bool.false_eq_true, if_false, List.filter_nil, List.map_nil, List.append_nil]
      exact hacc.keeps (smt.trans s3)
theorem r_truDD {R : Bool → Prop} (hp : DAt H p m) (h : R (!m.isEmpty)) : ∃ b, TruV K (.ref p) H b ∧ R b := by
  obtain ⟨kvs, e, dk⟩ := hp
  refine ⟨_, .inr (.inr ⟨kvs, e, rfl⟩), ?_⟩
  have : kvs.isEmpty = m.isEmpty := by
    have := dk.length
    cases kvs <;> cases m <;> simp_all
  rw [this]; exact h
theorem r_dget1T {td ty : TE} (h : td σ H fun x H1 => ∃ a, x = .ref a ∧ IsD H1 a ∧ ty σ H1 fun y H2 => ∃ o, DGet H2 a y o ∧ Q (o.getD .non) H2) : tDGet1 td ty σ H Q := h
theorem r_dget1 {R : Addr → Prop} (hp : DAt H p m) (h : R p) : ∃ a, V.ref p = .ref a ∧ IsD H a ∧ R a := by
  obtain ⟨kvs, e, _⟩ := hp
  exact ⟨p, rfl, .inl ⟨kvs, .inl e⟩, h⟩
theorem r_dget1o (hp : DAt H p m) (h1 : ∀ d, lkp m k = some d → ∀ v, Dv H v d → Q v H) (h2 : lkp m k = none → Q .non H) : ∃ o, DGet H p (.str k) o ∧ Q (o.getD .non) H := by
  obtain ⟨kvs, e, dk⟩ := hp
  refine ⟨valV kvs (.inr k), .inl ⟨kvs, .inr k, .inl e, rfl, rfl⟩, ?_⟩
  obtain ⟨g1, g2⟩ := dk.val (k := k)
  cases hl : lkp m k with
  | none => rw [g2 hl]; exact h2 hl
  | some d => obtain ⟨v, hv, hd⟩ := g1 d hl; rw [hv]; exact h1 d hl v hd
end
end L2

namespace L2
open PySem PySem.Spec PyProof.Rows PySem.W
def TrD (h : Heap) (a T : Addr) (c : Value) (od : Option Addr) : Prop := ∃ oe vs oT ts, h.get? a = some oe ∧ oe.cls = c ∧ oe.dict = od ∧ oe.data = .fields vs ∧ vs[1]? = some (.ref T) ∧ T ≠ a ∧ h.get? T = some oT ∧ oT.data = .fields ts ∧ ts[3]? = some .none ∧ vs[2]? = some .none
section
variable {M : Model} {A : Around} {E : Value → Shared → Prop} {s : Shared} {env : Env} {outer : List Env} {L a T : Addr} {c : Value} {od : Option Addr} {base : Heap} {Q : Unit → Shared → Prop}
theorem entryD_ok {oe : Obj} {vs : Array Value} {head : Value} {had : Bool} (hfr : A.frames = some (env :: outer)) (hl : s.heap.FunFrames base (env :: outer)) (hf : env.frame = some L) (he : s.heap.get? a = some oe) (hdn : oe.dict = od) (hd : oe.data = .fields vs) (hsz : 1 < vs.size) (hv2 : vs[2]? = some .none)
    (h : ∀ h' T', TrD h' a T' oe.cls od → s.heap.get? T' = none → Lv (env :: outer) [a] s.heap h' → Q () { s with heap := h' }) :
    wpAny M A (do let x ← frameOf env; let pl ← entryPlaceOf L had; let b ← EntryCells.newEntry head x .none (rawInt L) .none pl; setField (.ref a) 1 b) (fun _ s' => wpAny M A (setFlight (.ref a) none) Q E s') E s := by
  have hae : a ∉ frs (env :: outer) := fun m => by
    obtain ⟨_, o, ho, hn⟩ := hl.mem m
    rw [he] at ho
    cases ho
    exact hn vs hd
  refine wpAny_bind (wpAny_frameOf_fun hfr hl hf fun h1 s1 => ?_)
  refine wpAny_bind (wpAny_entryPlaceOf fun pl hpl => ?_)
  unfold EntryCells.newEntry newFields
  refine wpAny_bind (wpAny_newObj_type ?_ (hpl.sizeOk5 _ _ _ _ _))
  have e1 : h1.get? a = some oe := (s1.2.1 a hae).trans he
  let tb : Obj := { cls := .type "traceback", dict := none, data := .fields ([head, .ref L, .none, rawInt L, .none] ++ (if pl.isEmpty then List.replicate 6 Value.none else pl)).toArray }
  have e2 : (h1.push tb).get? a = some oe := Heap.get?_push_of_some _ e1
  refine wpAny_setField e2 hd hsz ?_
  have hTa : h1.objs.size ≠ a := Ne.symm (Nat.ne_of_lt (Heap.lt_size e1))
  have d3 := Obj.data_mapFields hd (·.setIfInBounds 1 (Value.ref h1.objs.size))
  have e3 := Heap.get?_update_self (Obj.mapFields (·.setIfInBounds 1 (Value.ref h1.objs.size))) e2 (Obj.isFreed_of_fields d3)
  have t3 : ((h1.push tb).update a (Obj.mapFields (·.setIfInBounds 1 (Value.ref h1.objs.size)))).get? h1.objs.size = some tb := (Heap.get?_update_other _ _ (Ne.symm hTa)).trans (Heap.get?_push_size h1 rfl)
  unfold setFlight
  refine wpAny_bind (wpAny_field e3 d3 (x := .ref h1.objs.size) (by simp [hsz]) ?_)
  rw [if_pos (show (Value.ref h1.objs.size != Value.none) = true from by simp)]
  refine wpAny_setField t3 rfl (by simp only [List.size_toArray, List.length_append, List.length_cons, List.length_nil] <;> omega) (h _ h1.objs.size ?_ ?_ ?_)
  · refine ⟨_, _, _, _, (Heap.get?_update_other _ _ hTa).trans e3, Obj.cls_mapFields _ _, ?_, d3, by simp [hsz], hTa, Heap.get?_update_self _ t3 (Obj.isFreed_of_fields (Obj.data_mapFields rfl _)), Obj.data_mapFields rfl _, by first | (simp; done) | (rcases hpl with rfl | ⟨_, _, _, _, _, _, _, rfl⟩ <;> simp), by rw [Array.getElem?_setIfInBounds_ne (by decide)]; exact hv2⟩
    obtain ⟨c0, d0, dt0, sl0⟩ := oe
    cases dt0 <;> first | exact hdn | (cases hd)
  · cases q : s.heap.get? h1.objs.size with
    | none => rfl
    | some o =>
      obtain ⟨sl, z⟩ := s1.2.2 _ o q
      exact absurd (Heap.lt_size z) (Nat.lt_irrefl _)
  · have kp : ∀ b o, b ≠ a → h1.get? b = some o → (((h1.push tb).update a (Obj.mapFields (·.setIfInBounds 1 (Value.ref h1.objs.size)))).update h1.objs.size (Obj.mapFields (·.setIfInBounds 3 ((none : Option Addr).elim Value.none fun f => rawInt f)))).get? b = some o := fun b o hb q => by
      rw [Heap.get?_update_other _ _ (Ne.symm (Nat.ne_of_lt (Heap.lt_size q))), Heap.get?_update_other _ _ (Ne.symm hb)]
      exact Heap.get?_push_of_some _ q
    refine ⟨fun b o n1 n2 q => kp b o (by simpa using n2) ((s1.2.1 b n1).trans q), fun b o m q => ?_⟩
    obtain ⟨sl, z⟩ := s1.2.2 b o q
    exact ⟨sl, kp b _ (fun z => hae (z ▸ m)) z⟩
theorem noteD_first {oe : Obj} {vs : Array Value} (hfr : A.frames = some (env :: outer)) (hl : s.heap.FunFrames base (env :: outer)) (hf : env.frame = some L) (he : s.heap.get? a = some oe) (hdn : oe.dict = od) (hd : oe.data = .fields vs) (h1 : vs[1]? = some .none) (hv2 : vs[2]? = some .none)
    (h : ∀ h' T', TrD h' a T' oe.cls od → s.heap.get? T' = none → Lv (env :: outer) [a] s.heap h' → Q () { s with heap := h' }) : wpAny M A (noteFrame (.ref a) env) (fun _ s' => wpAny M A (setFlight (.ref a) none) Q E s') E s := by
  unfold noteFrame
  simp only [hf]
  refine wpAny_bind (wpAny_field he hd h1 ?_)
  rw [if_neg (by decide)]
  exact entryD_ok hfr hl hf he hdn hd (Array.getElem?_eq_some_iff.mp h1).1 hv2 h
theorem noteD_next (hfr : A.frames = some (env :: outer)) (hl : s.heap.FunFrames base (env :: outer)) (hf : env.frame = some L) (ht : TrD s.heap a T c od)
    (h : ∀ h' T', TrD h' a T' c od → (T' = T ∨ s.heap.get? T' = none) → Lv (env :: outer) [a, T] s.heap h' → Q () { s with heap := h' }) : wpAny M A (noteFrame (.ref a) env) (fun _ s' => wpAny M A (setFlight (.ref a) none) Q E s') E s := by
  obtain ⟨oe, vs, oT, ts, e1, rfl, e3, e4, e5, e6, e7, e8, e9, e10⟩ := ht
  unfold noteFrame
  simp only [hf]
  refine wpAny_bind (wpAny_field e1 e4 e5 ?_)
  rw [if_pos (show (Value.ref T != Value.none) = true from by simp)]
  refine wpAny_bind (wpAny_field e7 e8 e9 ?_)
  rw [if_neg (show ¬ ((Value.none == rawInt L) = true) from by simp [rawInt])]
  refine wpAny_bind (wpAny_setField e7 e8 (Array.getElem?_eq_some_iff.mp e9).1 ?_)
  have oth : ∀ b, b ≠ T → (s.heap.update T (Obj.mapFields (·.setIfInBounds 3 Value.none))).get? b = s.heap.get? b := fun b hb => Heap.get?_update_other _ _ (Ne.symm hb)
  have nT : ∀ b o, s.heap.get? b = some o → (∀ vs, o.data ≠ .fields vs) → b ≠ T := fun b o hb hn z => by
    rw [z, e7] at hb
    cases hb
    exact hn ts e8
  refine entryD_ok (s := { s with heap := s.heap.update T (Obj.mapFields (·.setIfInBounds 3 Value.none)) }) hfr (hl.of_keeps fun b o hb hn => ⟨o, (oth b (nT b o hb hn)).trans hb, rfl⟩) hf ((oth a (Ne.symm e6)).trans e1) e3 e4 (Array.getElem?_eq_some_iff.mp e5).1 e10 fun h' T' t1 t2 lv => h h' T' t1 ?_ ⟨fun b o n1 n2 q => ?_, fun b o m q => ?_⟩
  · by_cases z : T' = T
    · exact .inl z
    · exact .inr ((oth T' z).symm.trans t2)
  · have : b ≠ a ∧ b ≠ T := by simpa using n2
    exact lv.keep b o n1 (by simpa using this.1) ((oth b this.2).trans q)
  · obtain ⟨_, o', q', hn⟩ := hl.mem m
    rw [q] at q'
    cases q'
    exact lv.slot b o m ((oth b (nT b o q hn)).trans q)
theorem flightD_again (ht : TrD s.heap a T c od) (h : ∀ h', TrD h' a T c od → (∀ b o, b ≠ T → s.heap.get? b = some o → h'.get? b = some o) → Q () { s with heap := h' }) : wpAny M A (setFlight (.ref a) none) Q E s := by
  obtain ⟨oe, vs, oT, ts, e1, rfl, e3, e4, e5, e6, e7, e8, e9, e10⟩ := ht
  have hz := (Array.getElem?_eq_some_iff.mp e9).1
  refine wpAny_setFlight_none e1 e4 e5 e7 e8 hz (h _ ⟨oe, vs, _, _, (Heap.get?_update_other _ _ e6).trans e1, rfl, e3, e4, e5, e6, Heap.get?_update_self _ e7 (Obj.isFreed_of_fields (Obj.data_mapFields e8 _)), Obj.data_mapFields e8 _, by simp [hz], e10⟩ fun b o hb q => (Heap.get?_update_other _ _ (Ne.symm hb)).trans q)
end
def CXD (P : Program) (w : World) : CXT := fun outer H s E e s' => ∃ a T C od H', e = .ref a ∧ s'.os = s.os ∧ AllBare s'.gens ∧ Un (frs outer) [] H H' s.heap s'.heap ∧ HOk P w H' s'.heap ∧ TrD s'.heap a T (.ref C) od ∧ s.heap.get? a = none ∧ s.heap.get? T = none ∧ H' a = none ∧ H' T = none ∧ E (.ref C) od H'
section
variable {P : Program} {w : World} {K : PySem.W.Frag} {mg : Str → Option Value} {base : Heap} {N : List Str} {qual : Str} {scope : Scope} {f : Addr} {cd : Value} {A : Around} {outer : List Env} {s0 : Shared} {H0 : Hp} {E : XK} {CX : CXT} {pins : List (Addr × Obj)} {σ : St} {H : Hp} {s : Shared}
theorem cxd_left {a T C : Addr} {od : Option Addr} {S : List Addr} {h' : Heap} (I : Inv (cxOf CX P w K mg base N qual scope f cd A outer s0 H0 E) pins σ H s) (lv : Lv (cxOf CX P w K mg base N qual scope f cd A outer s0 H0 E).stack S s.heap h') (hS : ∀ b ∈ S, H b = none ∧ s0.heap.get? b = none)
    (tr : TrD h' a T (.ref C) od) (ha : H a = none) (hT : H T = none) (na : s0.heap.get? a = none) (nT : s0.heap.get? T = none) (hE : E (.ref C) od H) : CXD P w outer H0 s0 E (.ref a) { s with heap := h' } := by
  have eL : frs (cxOf CX P w K mg base N qual scope f cd A outer s0 H0 E).stack = s0.heap.objs.size :: frs outer := rfl
  have old : ∀ b o, s0.heap.get? b = some o → b ∉ S ∧ b ≠ s0.heap.objs.size := fun b o e => ⟨fun z => (by rw [(hS b z).2] at e; cases e), Nat.ne_of_lt (Heap.lt_size e)⟩
  refine ⟨a, T, C, od, H, rfl, I.os, I.bare, ⟨fun b o e n hb hx => ?_, fun b o e n hb hx => ?_, fun b o e n hx => I.base.free b o e n hx, fun b o e hx => ?_, I.base.tups, I.base.frzs, I.base.tbls⟩, fun b u e => ?_, tr, na, nT, ha, hT, hE⟩
  · have z := I.base.keep b o e n hb hx
    exact lv.keep b o (by rw [eL]; simp [(old b o e).2, hb]) (old b o e).1 z
  · obtain ⟨sl, z⟩ := I.base.slot b o e n hb hx
    obtain ⟨sl2, z2⟩ := lv.slot b _ (by rw [eL]; exact List.mem_cons_of_mem _ hb) z
    exact ⟨sl2, z2⟩
  · obtain ⟨o2, z⟩ := I.base.there b o e hx
    by_cases m : b ∈ frs (cxOf CX P w K mg base N qual scope f cd A outer s0 H0 E).stack
    · obtain ⟨sl2, z2⟩ := lv.slot b _ m z
      exact ⟨_, z2⟩
    · exact ⟨_, lv.keep b o2 m (old b o e).1 z⟩
  · refine (I.hok b u e).stay (fun c v hc q => ?_) (fun _ q => q) fun _ _ q => q
    have hc' : H c ≠ none := by
      rcases hc with rfl | hc
      · rw [e]; intro z; cases z
      · rw [hc]; intro z; cases z
    exact lv.keep c v (fun m => hc' (I.stkFree c m)) (fun m => hc' (hS c m).1) q
def PassesS (CX : CXT) (X : Cx) (E : St → XK) : Prop := ∀ (pins : List (Addr × Obj)) (σ : St) (H : Hp) (s : Shared) (e : Value) (s' : Shared), Inv X pins σ H s → CX X.stack H s (E σ) e s' → X.xe e s'
theorem passD : PassesS (CXD P w) (cxOf (CXD P w) P w K mg base N qual scope f cd A outer s0 H0 E) (fun _ => E) := by
  intro pins σ H s e s' I ⟨a, T, C, od, H', he, os, bare, un, hok, tr, na, nT, ha, hT, hE⟩
  subst he
  have I' := I.call' (ch := []) os un hok bare (fun b z => nomatch z)
  have dead : ∀ b, s.heap.get? b = none → s0.heap.get? b = none := fun b z => by
    cases q : s0.heap.get? b with
    | none => rfl
    | some o =>
      obtain ⟨o2, z2⟩ := I.base.there b o q (by intro y; cases y)
      rw [z] at z2
      cases z2
  show wpAny _ _ (leaving _ (.ref a)) _ _ s'
  refine wpAny_bind (noteD_next (base := base) I'.ok.frames I'.stack rfl tr fun h2 T2 tr2 hT2 lv => ?_)
  have d' : s'.heap.get? T2 = none → s0.heap.get? T2 = none := fun z => by
    cases q : s0.heap.get? T2 with
    | none => rfl
    | some o =>
      obtain ⟨o2, z2⟩ := I'.base.there T2 o q (by intro y; cases y)
      rw [z] at z2
      cases z2
  refine cxd_left I' lv (fun b hb => ?_) tr2 ha ?_ (dead a na) ?_ hE
  · have : b = a ∨ b = T := by simpa using hb
    rcases this with rfl | rfl
    · exact ⟨ha, dead _ na⟩
    · exact ⟨hT, dead _ nT⟩
  · rcases hT2 with rfl | z
    · exact hT
    · exact I'.hok.dead z
  · rcases hT2 with rfl | z
    · exact dead _ nT
    · exact d' z
def RaiseOkD (X : Cx) (E : St → XK) : Prop := ∀ (pins : List (Addr × Obj)) (σ : St) (H : Hp) (s : Shared) (a C : Addr) (od : Option Addr) (oe : Obj) (vs : Array Value), Inv X pins σ H s → s.heap.get? a = some oe → oe.cls = .ref C → oe.dict = od → oe.data = .fields vs → vs[1]? = some .none → vs[2]? = some .none →
  H a = none → X.s₀.heap.get? a = none → E σ (.ref C) od H → X.xe (.ref a) s
theorem raiseD : RaiseOkD (cxOf (CXD P w) P w K mg base N qual scope f cd A outer s0 H0 E) (fun _ => E) := by
  intro pins σ H s a C od oe vs I e1 e2 e3 e4 v1 v2 ha na hE
  show wpAny _ _ (leaving _ (.ref a)) _ _ s
  refine wpAny_bind (noteD_first (base := base) I.ok.frames I.stack rfl e1 e3 e4 v1 v2 fun h2 T2 tr2 hT2 lv => ?_)
  rw [e2] at tr2
  refine cxd_left I lv (fun b hb => ?_) tr2 ha (I.hok.dead hT2) na ?_ hE
  · have : b = a := by simpa using hb
    subst this
    exact ⟨ha, na⟩
  · cases q : s0.heap.get? T2 with
    | none => rfl
    | some o =>
      obtain ⟨o2, z2⟩ := I.base.there T2 o q (by intro y; cases y)
      rw [hT2] at z2
      cases z2
end
end L2
namespace L2
open PySem PySem.Spec PyProof.Rows PySem.W
structure CalD (P : Program) (w : World) (K : PySem.W.Frag) (mg : Str → Option Value) (base : Heap) (k : Nat) (f : Addr) (ps : List Str) (dvs : List V) (sp : Sp) : Prop where
  ex : ∃ (fd : FuncData) (ds : List Value), FnOk P w K mg base (CXD P w) k f fd ps sp ∧ Binds K fd ps ds ∧ Vals dvs ds
theorem withD.out {sp : Sp} {vs : List V} {H : Hp} {Q : VK} {E : XK} (h : withD sp vs H Q E) : sp vs H Q E := let ⟨_, e, h⟩ := h; e ▸ h
def tCallS (sp : Sp) (dvs : List V) (E : St → XK) (t : TA) : TE := fun σ H Q => t σ H fun vs H1 => withD sp (vs ++ dvs) H1 Q (E σ)
def tMethS (C : Addr) (m : Str) (sp : Sp) (dvs : List V) (E : St → XK) (ta : TE) (t : TA) : TE := fun σ H Q => ta σ H fun x H1 => ∃ a dx fs, x = .ref a ∧ H1 a = some (.ins C dx fs) ∧ fs.lookup m = none ∧
  t σ H1 fun vs H2 => withD sp (x :: (vs ++ dvs)) H2 Q (E σ)
def tMakeS (C : Addr) (sp : Sp) (dvs : List V) (E : St → XK) (t : TA) : TE := fun σ H Q => t σ H fun vs H1 => MakeP C sp (vs ++ dvs) H1 Q (E σ)
section
variable {X : Cx} {CX : CXT} {k : Nat} {f C : Addr} {fd : FuncData} {ps : List Str} {sp : Sp} {dvs : List V} {ds : List Value} {E : St → XK} {x m : Str} {p pos apos : Pos} {e o : Expr} {es : List Expr} {ta : TE} {t : TA}
theorem run_fnS {pins : List (Addr × Obj)} {σ : St} {H : Hp} {s : Shared} {Q : VK} {us : List Value} {vs : List V} (F : FnOk X.prog X.w X.K X.mg X.base CX k f fd ps sp) (hr : Room k X.A) (hb : Binds X.K fd ps ds) (hd : Vals dvs ds) (hx : PassesS CX X E)
    (I : Inv X pins σ H s) (r : Vals vs us) (h : sp (vs ++ dvs) H Q (E σ)) : wpAny (model X.prog X.w) X.A (call (.ref f) us) (EP X pins σ Q) X.xe s := by
  have r2 : Vals (vs ++ dvs) (us ++ ds) := r.append hd
  have hl : (us ++ ds).length = ps.length := by rw [← r2.length]; exact F.len _ _ _ _ h
  refine wpAny_call (codeAny_mono (F.run X.A X.stack s H ⟨us, []⟩ (us ++ ds) (vs ++ dvs) Q (E σ) hr I.env0 (hb s us I.kIn hl) r2 h) fun r s' hq => ?_)
  cases r with
  | error e => exact hx pins σ H s e s' I hq
  | ok fl =>
    cases fl with
    | ret u => exact I.after hq
    | next => exact False.elim hq
    | brk => exact False.elim hq
    | cont => exact False.elim hq
theorem pd_meth {pl : Sem Bool} (he : PE X o ta) (c : Cls X.K C) (hm : Meth X.K C m f) (F : CalD X.prog X.w X.K X.mg X.base k f ps dvs sp) (hr : Room k X.A) (hx : PassesS (CXD X.prog X.w) X E) (ha : PA X (e :: es) t)
    (hst : starEach (e :: es) X.env = (false, eval e X.env) :: starEach es X.env := by rfl) (hpl : (backTo pos (starEach es X.env)).any (·.1) = false := by rfl)
    (ht : eval (.Call (.Attribute o m apos) (e :: es) [] pos) X.env = (do
      let ov ← eval o X.env
      standAt apos.atName
      let (f, first) ← holding [ov] (getMethod ov m pl)
      callWith pos f first (backTo pos (starEach (e :: es) X.env)) (backToKw pos (keywordEach [] X.env))) := by rfl) :
    PE X (.Call (.Attribute o m apos) (e :: es) [] pos) (tMethS C m sp dvs E ta t) := by
  obtain ⟨fd, ds, F, hb, hd⟩ := F.ex
  intro pins s σ H Q I h
  refine PySem.W.methodCall_KW (pl := pl) (thn (he pins s σ H _ I h) fun u s1 ⟨x, H1, I1, rx, a, dx, fs, ex, ea, l, q⟩ => ?_) ht
  subst ex
  obtain rfl : u = Value.ref a := rx
  refine getmeth_ok I1 ea c hm l ?_
  refine PySem.W.callWith_K (first := [.ref a]) (h₀ := X.base) I.ok.mod.kin hm.kp (thn (ha pos pins s1 σ H1 _ I1 q) fun us s2 ⟨vs, H2, I2, r, q2⟩ => ⟨I2.kIn, ?_⟩) hst hpl
  exact run_fnS (us := .ref a :: us) (vs := .ref a :: vs) F hr hb hd hx I2 (.cons rfl r) (withD.out q2)
end
section
variable {P : Program} {w : World} {K : PySem.W.Frag} {mg : Str → Option Value} {base : Heap}
theorem FunD.okD {x qual : Str} {st : Stmt} {f : Addr} {dV : Value} {fd : FuncData} {N ps : List Str} {k : Nat} {sp : Sp} (F : FunD K x qual st f dV fd) (S : FnScope N ps (defScope st)) (len : ∀ vs H Q E, sp vs H Q E → vs.length = ps.length)
    (hbody : ∀ (cdv : Value) (A : Around) (outer : List Env) (s : Shared) (H : Hp) (vs : List V) (Q : VK) (E : XK), Room k (A.deeper (envOfC qual (defScope st) s.heap.objs.size f cdv)) → sp vs H Q E →
      ∃ t, PSs (cxOf (CXD P w) P w K mg base N qual (defScope st) f cdv A outer s H E) (defBody st) t ∧ t { nx := fun _ H' => Q .non H', rt := Q } (start N vs) H) : FnOk P w K mg base (CXD P w) (k + 1) f fd ps sp := by
  obtain ⟨oc, od, kV, doc, pm, an, cdv, ct, osl, rfl, lk, hcd⟩ := F.ex
  exact fn_of lk hcd S len fun A outer s H vs Q E hr hsp => hbody cdv A outer s H vs Q E hr hsp
end
end L2
namespace L2
open PySem PySem.Spec PyProof.Rows PySem.W
theorem exc_get {prog : Program} {w : World} {A : Around} {E : Value → Shared → Prop} {s : Shared} {K : PySem.W.Frag} {x D : Addr} {ox od : Obj} {name : Str} {v : Value} {expr : Bool} {Q : Value → Shared → Prop} (t : TyE K D) (X : K.In s.heap) (I : InstAt s.heap x ox D (some od)) (ha : PySem.W.findIn K (.ref D) name = some none)
    (hl : PySem.W.lookIn name od = some (some v)) (hh : PySem.W.handedIn v = true) (h : Q v { s with toks := s.toks + 1 }) : wpAny (model prog w) A (getAttr (.ref x) name expr) Q E s := by
  have hf : findObj K D (some od) name = some (.value v) := PySem.W.findObj_own t.hd ha rfl hl
  obtain ⟨hp, g, d, tk, os⟩ := s
  have L0 := I.type (M := model prog w)
  have L1 := looks_findIn (M := model prog w) X t.ga
  have L2 := looks_findIn (M := model prog w) X t.gn
  have L3 := looks_find (M := model prog w) X I hf
  have L4 := looks_mroIn (M := model prog w) X t.mb
  have hk : builtinKind "BaseException.__getattribute__" = some .slot := by decide +kernel
  have hsplit : splitId "BaseException.__getattribute__" = some ("BaseException", "__getattribute__") := by decide +kernel
  unfold getAttr getAttrBy
  refine wpAny_bind (wpAny_mkText (wpAny_holding (wpAny_bind (L0.at (wpAny_bind (L1.at ?_))))))
  dsimp only
  rw [if_neg (show ¬ ((onTheHeap (Value.ref D) && Value.builtin "BaseException.__getattribute__" == Value.builtin "object.__getattribute__") = true) by rw [show (Value.builtin "BaseException.__getattribute__" == Value.builtin "object.__getattribute__") = false from by decide +kernel, Bool.and_false]; decide)]
  unfold getAttrByItsOwn
  refine wpAny_bind (show wpAny _ _ (typeLookup (.ref D) "__getattr__") _ _ _ from L2.at ?_)
  refine wpAny_bind (wpAny_attempt (wpAny_holding ?_))
  unfold callGetattribute
  rw [show (expr && onTheHeap (Value.builtin "BaseException.__getattribute__")) = false from by cases expr <;> rfl, if_neg (by decide)]
  unfold boundAndCalled
  rw [PySem.F.attr_ValueError.ga.bind]
  refine wpAny_bind (wpAny_pure ?_)
  refine wpAny_call (codeAny_call_builtin PySem.F.attr_ValueError.ga.plain PySem.F.entry_bexc_ga ?_)
  simp only [checkBuiltinCall, hk, hsplit]
  have ha := PySem.F.args_bexc_ga (.ref x) (.str name tk)
  dsimp only at L0 L1 L2 L3 L4 X I h
  refine wpAny_bind ?_
  unfold isInstance
  refine wpAny_bind (L0.at (L4.at ?_))
  rw [if_neg (by decide)]
  repeat (any_goals (first | assumption | with_reducible refine L0.at ?_ | with_reducible refine L3.at ?_ | wp_step))
  show wpAny _ _ (handedOut v) _ _ _
  rw [handedOut_of hh]; exact wpAny_pure h
def onlyExc : List Value → Bool
  | .ref _ :: r => onlyExc r
  | l => l == veB
theorem only_exc {l : List Value} (e : onlyExc l = true) (self : Value) : refuseLoop self "__setattr__" l = pure () := by
  induction l with
  | nil => cases e
  | cons v r ih =>
    cases v with
    | ref c => rw [refuseLoop_ref]; exact ih e
    | _ => have e' := beq_iff_eq.mp (show ((_ :: r) == veB) = true from e); rw [e']; exact PySem.F.store_ValueError.passes self
theorem only_obj {l : List Value} (e : onlyExc l = true) : l.contains (.type "object") = true ∧ l.isEmpty = false := by
  refine ⟨?_, by cases l <;> first | rfl | cases e⟩
  induction l with
  | nil => cases e
  | cons v r ih =>
    cases v with
    | ref c => rw [List.contains_cons, ih e, Bool.or_true]
    | _ => have e' := beq_iff_eq.mp (show ((_ :: r) == veB) = true from e); rw [e']; decide
section
variable {prog : Program} {w : World} {A : Around} {E : Value → Shared → Prop} {s : Shared} {K : PySem.W.Frag} {x C : Addr} {ox : Obj} {name : Str} {v : Value} {cd : ClassData}
open Builtin.ObjectAttr in
theorem exc_osa {od : Option Obj} {tk : Tok} {R : Result → Shared → Prop} (X : K.In s.heap) (I : InstAt s.heap x ox C od) (hc : clsIn K C = some cd) (ho : onlyExc cd.mro = true) (ht : takerIn K C name = some none)
    (h : ∀ b, wpAny (model prog w) A.in1 (storeInOwnDict (.ref x) (.ref C) (.str name tk) name v b)
      (fun fin s' => match fin with | .done f => R (.ok f) s' | .again c' => c'.quiet = true ∧ codeAny (model prog w) A c' R s') (fun e s' => R (.error e) s') s) :
    codeAny (model prog w) A (.call (.builtin "object.__setattr__") ⟨[.ref x, .str name tk, v], []⟩) R s := by
  have SF := PySem.F.store_object
  obtain ⟨hob, ne⟩ := only_obj ho
  have sub : Looks (model prog w) s.heap (isInstance (.ref x) (.type "object")) true := I.type.andThen (looks_mroIn X (by unfold mroIn; rw [hc, Option.bind_some, if_neg (by rw [ne]; decide), hob]))
  refine codeAny_call_builtin SF.slot.plain SF.entry (@check_slot (model prog w) _ _ s "object.__setattr__" "object" "__setattr__" (.ref x) [.str name tk, v] [] _ SF.kind SF.split sub (SF.args (.ref x) (.str name tk) v) ?_)
  obtain ⟨attr, ha, hr⟩ := Option.bind_eq_some_iff.mp ht
  have hm : Looks (model prog w) s.heap (mroOf (.ref C)) cd.mro := (looks_clsIn X hc).andThen .now
  have L3 : Looks (model prog w) s.heap (storeTaker? attr) none := by
    cases attr with
    | none => cases hr; exact .now
    | some a =>
      obtain ⟨b, hb, he⟩ := Option.map_eq_some_iff.mp hr
      refine (looks_takesIn X hb).andThen ?_
      cases b
      · exact .now
      · cases he
  rw [osa_eq, refuse_eq]
  refine wpAny_bind (wpAny_bind (I.type.here (wpAny_bind (hm.here ?_))))
  rw [only_exc ho]
  refine wpAny_pure (wpAny_bind (I.type.here (wpAny_bind ((looks_findIn X ha).here (wpAny_bind (L3.here ?_))))))
  exact h _
open Builtin.ObjectAttr in
theorem exc_set {vs : Array Value} {Q : Unit → Shared → Prop} (X : K.In s.heap) (hx : s.heap.get? x = some ox) (hcl : ox.cls = .ref C) (hd : ox.dict = none) (hf : ox.data = .fields vs)
    (hs : PySem.W.findIn K (.ref C) "__setattr__" = some (some (.builtin "object.__setattr__"))) (hc : clsIn K C = some cd) (ho : onlyExc cd.mro = true) (hh : cd.hasDict = true) (ht : takerIn K C name = some none)
    (h : ∀ h' d t', s.heap.get? d = none → d ≠ x → h'.get? x = some { ox with dict := some d } → h'.Ns1 d (fun y => if y = name then some v else none) → (∀ b o, b ≠ x → s.heap.get? b = some o → h'.get? b = some o) → Q () { s with heap := h', toks := t' }) :
    wpAny (model prog w) A (setAttr (.ref x) name v) Q E s := by
  have J : InstAt s.heap x ox C none := ⟨hx, hcl, by unfold notCls; rw [hf], by rw [hd]; trivial⟩
  refine PySem.W.set_plain X J hs (exc_osa (s := { s with toks := s.toks + 1 }) X J hc ho ht fun b => ?_)
  unfold storeInOwnDict
  refine wpAny_bind (wpAny_pure ?_)
  rw [if_neg (by intro q; cases beq_iff_eq.mp q)]
  refine wpAny_bind ?_
  refine wpAny_bind (wpAny_loadPart hx ?_)
  rw [hcl]
  dsimp only
  refine wpAny_bind (PySem.W.Looks.here (s := { s with toks := s.toks + 1 }) (PySem.W.looks_clsIn X hc) ?_)
  rw [hh]
  simp only [Bool.not_true, Bool.false_eq_true, if_false]
  rw [hd]
  dsimp only
  rw [if_neg (by simp [typeHasDict]), hf]
  dsimp only
  have hx1 : (s.heap.push { cls := .type "dict", data := .dict #[] }).get? x = some ox := Heap.get?_push_of_some _ hx
  have hxs : x ≠ s.heap.objs.size := Nat.ne_of_lt (Heap.lt_size hx)
  refine wpAny_bind (wpAny_alloc' ?_)
  refine wpAny_bind (wpAny_update' hx1 ?_)
  refine wpAny_pure ?_
  have hgd : ((s.heap.push { cls := .type "dict", data := .dict #[] }).update x fun o => { cls := o.cls, dict := some s.heap.objs.size, data := o.data, slots := o.slots }).get? s.heap.objs.size = some { cls := .type "dict", data := .dict #[] } :=
    (Heap.get?_update_ne _ _ _ _ hxs.symm).trans (Heap.get?_push_at rfl rfl)
  have hnd : ((s.heap.push { cls := .type "dict", data := .dict #[] }).update x fun o => { cls := o.cls, dict := some s.heap.objs.size, data := o.data, slots := o.slots }).Ns s.heap.objs.size (fun _ => none) :=
    ⟨_, #[], _, hgd, rfl, fun e he => absurd he (by simp), fun _ => rfl⟩
  show wpAny _ _ (storeInDict s.heap.objs.size (.str name _) name v) _ _ _
  unfold storeInDict newKeyGuard
  refine wpAny_bind (wpAny_pure (wpAny_bind (wpAny_nsSet1 (Heap.Ns1.of_empty hnd) fun h' hn' hs' => ?_)))
  obtain ⟨oD, esD, epD, hoD, hdD, hcD⟩ := hn'.count (Within.cons name v Within.nil)
  refine wpAny_bind (wpAny_lookBehind hoD (by rw [hdD]; exact pastItsLine_dict (Nat.le_trans hcD (by rw [List.length_cons, List.length_nil, sizeLine_eq]; omega))) ?_)
  refine wpAny_pure ?_
  refine h h' s.heap.objs.size _ (Heap.get?_none_of_le (Nat.le_refl _)) hxs.symm ?_ hn' fun b ob hbx hb => ?_
  · refine (hs'.2 x hxs).trans ?_
    rw [Heap.get?_update_self _ hx1]
    have hfr := (Heap.get?_some_iff.mp hx).2
    obtain ⟨oc, od, odt, osl⟩ := ox
    cases odt <;> first | rfl | exact hfr
  · exact (hs'.2 b (Nat.ne_of_lt (Heap.lt_size hb))).trans ((Heap.get?_update_ne _ _ _ _ hbx).trans (Heap.get?_push_of_some _ hb))
end
end L2
namespace L2
open PySem PySem.Spec PyProof.Rows PySem.W
def isM (a C : Addr) (od : Option Addr) : Heap → Prop := fun h => ∃ o vs v0, h.get? a = some o ∧ o.cls = .ref C ∧ o.dict = od ∧ o.data = .fields vs ∧ vs[0]? = some v0 ∧ vs[1]? = some .none ∧ vs[2]? = some .none
def isX (a C : Addr) (od : Option Addr) : Heap → Prop := fun h => ∃ o vs, h.get? a = some o ∧ o.cls = .ref C ∧ o.dict = od ∧ o.data = .fields vs ∧ vs[2]? = some .none
theorem isM.ext {h : Heap} {a C : Addr} {od : Option Addr} (m : isM a C od h) : isM a C od h ∧ (∃ o, h.get? a = some o) ∧ ∀ h1 h2 : Heap, isM a C od h1 → (∀ o, h1.get? a = some o → h2.get? a = some o) → isM a C od h2 :=
  ⟨m, let ⟨o, _, _, e, _⟩ := m; ⟨o, e⟩, fun _ _ ⟨o, vs, v0, e, r⟩ k => ⟨o, vs, v0, k o e, r⟩⟩
theorem isX.ext {h : Heap} {a C : Addr} {od : Option Addr} (m : isX a C od h) : isX a C od h ∧ (∃ o, h.get? a = some o) ∧ ∀ h1 h2 : Heap, isX a C od h1 → (∀ o, h1.get? a = some o → h2.get? a = some o) → isX a C od h2 :=
  ⟨m, let ⟨o, _, e, _⟩ := m; ⟨o, e⟩, fun _ _ ⟨o, vs, e, r⟩ k => ⟨o, vs, k o e, r⟩⟩
structure ExN (K : PySem.W.Frag) (C W fI : Addr) : Prop where
  cls : ∃ (nm q : Str) (N : Addr) (bs : List Value) (sn : List Str) (sub : List Value) (ab : Bool) (col : Option Bool) (dd : Option Addr) (k0 k1 k2 k3 k5 : Option Value), K.lookup C = some (excClassObj nm q C N bs (.ref W :: veB) true sn sub ab col dd k0 k1 k2 k3 k5 "ValueError.__new__")
  up : ExcK K W
  init : PySem.W.findIn K (.ref C) "__init__" = some (some (.ref fI))
  fn : PySem.W.isFn K (.ref fI) = true
  te : TyE K C
  sa : PySem.W.findIn K (.ref C) "__setattr__" = some (some (.builtin "object.__setattr__"))
  tk : PySem.W.takerIn K C "name" = some none
  nm : PySem.W.findIn K (.ref C) "name" = some none
def ExcO (K : PySem.W.Frag) (C : Addr) : Prop := ∀ h : Heap, K.In h → ∃ (bm : List Value) (N : Addr) (nm q : Str) (bs : List Value) (hd : Bool) (sn : List Str) (sub : List Value) (ab : Bool) (col : Option Bool) (dd : Option Addr) (k0 k1 k2 k3 k5 : Option Value),
  h.get? C = some (excClassObj nm q C N bs bm hd sn sub ab col dd k0 k1 k2 k3 k5 "ValueError.__new__") ∧ OwnTail h veB bm
theorem ExcK.o {K : PySem.W.Frag} {C : Addr} (h : ExcK K C) : ExcO K C := fun hp X => by
  obtain ⟨bm, N, nm, q, bs, hd, sn, sub, ab, col, dd, k0, k1, k2, k3, k5, mN, hC, _, _, T⟩ := exc_of X h
  exact ⟨bm, N, nm, q, bs, hd, sn, sub, ab, col, dd, k0, k1, k2, k3, k5, hC, T⟩
theorem ExN.tail {K : PySem.W.Frag} {C W fI : Addr} (e : ExN K C W fI) {h : Heap} (X : K.In h) : OwnTail h veB (.ref W :: veB) := by
  obtain ⟨bm, N, nm, q, bs, hd, sn, sub, ab, col, dd, k0, k1, k2, k3, k5, mN, hC, hN, hni, T⟩ := exc_of X e.up
  exact .own hC hN hni .base
theorem ExN.o {K : PySem.W.Frag} {C W fI : Addr} (e : ExN K C W fI) : ExcO K C := fun hp X => by
  obtain ⟨nm, q, N, bs, sn, sub, ab, col, dd, k0, k1, k2, k3, k5, hl⟩ := e.cls
  exact ⟨_, N, nm, q, bs, true, sn, sub, ab, col, dd, k0, k1, k2, k3, k5, X _ _ hl, e.tail X⟩
section
variable {prog : Program} {w : World} {A : Around} {E : Value → Shared → Prop} {h : Heap} {g : Array GenState} {d : Drawn} {t : Nat} {os : OsState}
variable {nm q : Str} {C N : Addr} {bs bm bmB : List Value} {hdct : Bool} {sn : List Str} {sub : List Value} {ab : Bool} {col : Option Bool} {dd : Option Addr} {k0 k1 k2 k3 k5 : Option Value} {B newId initId : String}
theorem type_call_initT {K : PySem.W.Frag} (F : ExcBaseFacts B newId initId bmB) (T : OwnTail h bmB bm) {rest : List Value} {fI : Addr} {Q : PySem.Fin → Shared → Prop} (X : K.In h)
    (hC : h.get? C = some (excClassObj nm q C N bs bm hdct sn sub ab col dd k0 k1 k2 k3 k5 newId)) (hi : PySem.W.findIn K (.ref C) "__init__" = some (some (.ref fI))) (hf : PySem.W.isFn K (.ref fI) = true)
    (hq : ∀ h' e, Heap.MadeExcOf h h' e (.ref C) rest →
      wpAny (model prog w) A (call (.ref fI) (.ref e :: rest)) (fun r s' => r = .none ∧ Q (.done (.ret (.ref e))) s') E ⟨h', g, d, t, os⟩) (hrest : rest.length ≤ sizeLine) :
    wpAny (model prog w) A (Builtin.«type.__call__» ⟨.ref C :: rest, []⟩) Q E ⟨h, g, d, t, os⟩ := by
  repeat (first | with_reducible refine wpAny_loadPart_at hC ?_ | with_reducible refine wpAny_madeBy_exc hC ?_ | wp_step)
  refine codeAny_call_builtin_code (Code.quiet_builtin _ F.quiet) (wpAny_check_new_subT F T hC ?_)
  refine codeAny_exc_new_subT F T hC ?_ hrest
  show wpAny _ _ _ _ _ _
  have kp : ∀ b o, h.get? b = some o → ((h.push { cls := .type "tuple", data := .seq rest.toArray }).push { cls := .ref C, data := .fields #[.ref h.objs.size, .none, .none, .none, .bool false, .none] }).get? b = some o := fun b o e => Heap.get?_push_of_some _ (Heap.get?_push_of_some _ e)
  have hC₁ := kp _ _ hC
  have X₁ := X.keeps kp
  have hget : ((h.push { cls := .type "tuple", data := .seq rest.toArray }).push
      { cls := .ref C, data := .fields #[.ref h.objs.size, .none, .none, .none, .bool false, .none] }).get? (h.objs.size + 1) = some
      { cls := .ref C, data := .fields #[.ref h.objs.size, .none, .none, .none, .bool false, .none] } := by heap_get
  have hcC : (Value.ref C :: bm).contains (.ref C) = true := by simp
  unfold isInstance
  repeat (first | with_reducible refine wpAny_loadPart_at hget ?_ | (with_reducible refine wpAny_isSubtype_exc hC₁ ?_; rw [hcC]) | wp_step)
  show wpAny _ _ (typeLookup (.ref C) _) _ _ _
  refine (PySem.W.looks_findIn (M := model prog w) X₁ hi).at ?_
  refine wpAny_holding (wpAny_bind ?_)
  refine (PySem.W.bind_fn (M := model prog w) X₁ _ (beq_iff_eq.mp hf)).at ?_
  refine wpAny_bind (wpAny_mono (hq _ (h.objs.size + 1) ⟨kp, Heap.get?_none_of_le (Nat.le_succ _), h.objs.size, hget, Heap.get?_none_of_le (Nat.le_refl _), ?_⟩) (fun r s' hr => ?_) fun _ _ x => x)
  · exact Heap.get?_push_of_some _ (Heap.get?_push_at rfl rfl)
  · obtain ⟨rfl, hQ⟩ := hr
    wp_walk
    exact hQ
theorem call_exc_initT {K : PySem.W.Frag} (F : ExcBaseFacts B newId initId bmB) (T : OwnTail h bmB bm) {rest : List Value} {fI : Addr} {Q : Value → Shared → Prop} (X : K.In h)
    (hC : h.get? C = some (excClassObj nm q C N bs bm hdct sn sub ab col dd k0 k1 k2 k3 k5 newId)) (hi : PySem.W.findIn K (.ref C) "__init__" = some (some (.ref fI))) (hf : PySem.W.isFn K (.ref fI) = true)
    (hq : ∀ h' e, Heap.MadeExcOf h h' e (.ref C) rest →
      wpAny (model prog w) (A.under (.builtin "type.__call__" ⟨.ref C :: rest, []⟩)) (call (.ref fI) (.ref e :: rest)) (fun r s' => r = .none ∧ Q (.ref e) s') E ⟨h', g, d, t, os⟩) (hrest : rest.length ≤ sizeLine) :
    wpAny (model prog w) A (call (.ref C) rest) Q E ⟨h, g, d, t, os⟩ := by
  have f1 := tc_lookup
  have f2 := tc_bind (.ref C)
  have hT : (⟨h, g, d, t, os⟩ : Shared).TypeIs (.ref C) "type" := ⟨_, hC, rfl⟩
  refine wpAny_call (codeAny_of_tree ?_)
  show wpAny _ _ (callAny (.ref C) _) _ _ _
  repeat (any_goals (first | assumption | with_reducible refine wpAny_loadPart_at hC ?_ | wp_step))
  refine ⟨rfl, ?_⟩
  refine codeAny_call_builtin_at (Code.quiet_builtin _ (by decide +kernel)) entry_typeCall (wpAny_check_type_call_sub hC (type_call_initT (hrest := hrest) F T X hC hi hf fun h' e hm => ?_))
  exact hq h' e hm
end
end L2
namespace L2
open PySem PySem.Spec PyProof.Rows PySem.W
theorem upd_id {H : Hp} {a : Addr} {o : HO} (e : H a = some o) : upd H a o = H := by
  funext b
  unfold upd
  split
  · rename_i z; rw [z, e]
  · rfl
structure InitB (K : PySem.W.Frag) (W : Addr) : Prop where
  ga : PySem.W.specialIn K (.ref W) "__getattribute__" = some (some (.builtin "type.__getattribute__"))
  rd : PySem.W.readsIn K W (.type "type") = true
  fd : PySem.W.findCls K (.ref W) (.type "type") "__init__" = some (.val (.builtin "ValueError.__init__"))
def ExcInitP (K : PySem.W.Frag) (vs : List V) (H : Hp) (Q : VK) : Prop := ∃ a C od ys, vs = .ref a :: ys ∧ ys.length ≤ 100 ∧ H a = some (.ext (isM a C od)) ∧ ExcO K C ∧ Q .non H
def tExcInit (K : PySem.W.Frag) (t : TA) : TE := fun σ H Q => t σ H fun vs H1 => ExcInitP K vs H1 Q
section
variable {X : Cx} {W : Addr} {x : Str} {p pos apos : Pos} {e : Expr} {es : List Expr} {t : TA} {pl : Sem Bool}
theorem pe_excInit (hg : Gl X x) (hm : X.mg x = some (.ref W)) (B : InitB X.K W) (ha : PA X (e :: es) t)
    (hdb : (x == ("__debug__" : Str)) = false := by decide)
    (hst : starEach (e :: es) X.env = (false, eval e X.env) :: starEach es X.env := by rfl) (hpl : (backTo pos (starEach es X.env)).any (·.1) = false := by rfl)
    (ht : eval (.Call (.Attribute (.Name x p) "__init__" apos) (e :: es) [] pos) X.env = (do
      let ov ← eval (.Name x p) X.env
      standAt apos.atName
      let (f, first) ← holding [ov] (getMethod ov "__init__" pl)
      callWith pos f first (backTo pos (starEach (e :: es) X.env)) (backToKw pos (keywordEach [] X.env))) := by rfl) :
    PE X (.Call (.Attribute (.Name x p) "__init__" apos) (e :: es) [] pos) (tExcInit X.K t) := by
  intro pins s σ H Q I h
  refine PySem.W.methodCall_KW (pl := pl) (ld_glob I hg hm ?_ hdb) ht
  refine PySem.W.method_cls I.kIn B.ga ?_
  refine PySem.W.cls_value I.kIn B.rd B.fd rfl ?_
  have I' : Inv X pins σ H { s with toks := s.toks + 1 } := I.tok _
  show wpAny _ _ (callWith pos (.builtin "ValueError.__init__") [] (backTo pos (starEach (e :: es) X.env)) []) _ _ _
  refine PyProof.Rows.callWith_builtin1 (thn (ha pos pins _ σ H _ I' h) fun us s2 ⟨vs, H2, I2, r, q2⟩ => ?_) hst hpl
  obtain ⟨a, C, od, ys, rfl, hly, hH, hO, q⟩ := q2
  cases r with
  | cons ra ru =>
  rename_i u us _
  obtain rfl : u = Value.ref a := ra
  obtain ⟨⟨o, vs', v0, e1, e2, e3, e4, e5, e6, e7⟩, _⟩ := (show ObjOk X.prog X.w H2 s2.heap a (.ext (isM a C od)) from I2.hok a _ hH)
  obtain ⟨bm, N, nm, q', bs, hd, sn, sub, ab, col, dd, k0, k1, k2, k3, k5, hC, T⟩ := hO _ I2.kIn
  obtain ⟨hp, g, d, tk, os⟩ := s2
  have F := PySem.F.excBase_ValueError
  have hul : us.length ≤ sizeLine := by rw [← ru.length, sizeLine_eq]; omega
  refine wpAny_call (codeAny_call_builtin F.init.plain F.initEntry (wpAny_check_init_subT F T hC e1 e2 ?_))
  show wpAny _ _ (newTuple us >>= fun t => Builtin.BaseException.bexcPut (.ref a) 0 t >>= fun _ => ret .none) _ _ _
  refine wpAny_bind (wpAny_newTuple ?_ hul)
  unfold Builtin.BaseException.bexcPut
  have kp : ∀ b u, hp.get? b = some u → (hp.push (seqObj "tuple" us.toArray 0)).get? b = some u := fun b u z => Heap.get?_push_of_some _ z
  have I3 : Inv X pins σ H2 ⟨hp.push (seqObj "tuple" us.toArray 0), g, d, tk, os⟩ := I2.kept (t' := tk) kp
  have e1' := kp _ _ e1
  have hz : 0 < vs'.size := (Array.getElem?_eq_some_iff.mp e5).1
  refine wpAny_bind (wpAny_bind (wpAny_field e1' e4 e5 (wpAny_bind (wpAny_setField e1' e4 hz ?_))))
  have d3 := Obj.data_mapFields e4 (·.setIfInBounds 0 (Value.ref hp.objs.size))
  have e3' := Heap.get?_update_self (Obj.mapFields (·.setIfInBounds 0 (Value.ref hp.objs.size))) e1' (Obj.isFreed_of_fields d3)
  have I4 : Inv X pins σ H2 ⟨(hp.push (seqObj "tuple" us.toArray 0)).update a (Obj.mapFields (·.setIfInBounds 0 (Value.ref hp.objs.size))), g, d, tk, os⟩ := by
    have J := I3.write (x := a) (e := a) (o := .ext (isM a C od)) (t' := tk) (h' := (hp.push (seqObj "tuple" us.toArray 0)).update a (Obj.mapFields (·.setIfInBounds 0 (Value.ref hp.objs.size)))) (by rw [hH]; trivial) (.inl rfl) (fun b u hb z => (Heap.get?_update_other _ _ (Ne.symm hb)).trans z) ⟨_, e3'⟩
      (isM.ext ⟨_, _, .ref hp.objs.size, e3', ?_, ?_, d3, by simp [hz], ?_, ?_⟩)
    · rw [upd_id hH] at J; exact J
    · rw [Obj.cls_mapFields]; exact e2
    · obtain ⟨c0, d0, dt0, sl0⟩ := o
      cases dt0 <;> first | exact e3 | (cases e4)
    · rw [Array.getElem?_setIfInBounds_ne (by decide)]; exact e6
    · rw [Array.getElem?_setIfInBounds_ne (by decide)]; exact e7
  have fin : EP X pins σ Q Value.none ⟨(hp.push (seqObj "tuple" us.toArray 0)).update a (Obj.mapFields (·.setIfInBounds 0 (Value.ref hp.objs.size))), g, d, tk, os⟩ := ⟨.non, H2, I4, rfl, q⟩
  cases v0
  case ref b => exact wpAny_letGo (wpAny_pure fin)
  all_goals exact wpAny_pure (wpAny_pure fin)
end
end L2
namespace L2
open PySem PySem.Spec PyProof.Rows PySem.W
theorem cls_of {K : PySem.W.Frag} {C : Addr} {c0 : Value} {dd : Option Addr} {cd : ClassData} {sl : Array (Option Value)} (h : K.lookup C = some ⟨c0, dd, .cls cd, sl⟩) : clsIn K C = some cd := by unfold clsIn; rw [h]
def sFldX (K : PySem.W.Frag) (ta tv : TE) : TS := fun D σ H => tv σ H fun y H1 => ta σ H1 fun x H2 => ∃ a C W fI, x = .ref a ∧ H2 a = some (.ext (isM a C none)) ∧ ExN K C W fI ∧ ∀ d, H2 d = none → d ≠ a → D.nx σ (upd (upd H2 d (.xd [("name", y)])) a (.ext (isM a C (some d))))
theorem ps_fldX {X : Cx} {o value : Expr} {pos pos' : Pos} {ta tv : TE} (ha : PE X o ta) (hv : PE X value tv) (hs : swapsWith value (some (.Attribute o "name" pos')) pos.line X.env = pure false) : PS X (.Assign [.Attribute o "name" pos'] value pos) (sFldX X.K ta tv) := by
  intro pins s σ H D I h
  refine plainObj_wpAny_Assign_Attribute (thn (hv pins s σ H _ I h) fun u s1 ⟨y, H1, I1, ry, q⟩ => thn (ha pins s1 σ H1 _ I1 q) fun ov s2 ⟨x, H2, I2, rx, a, C, W, fI, ex, ea, n, q2⟩ => ?_) hs
  subst ex
  obtain rfl : ov = Value.ref a := rx
  obtain ⟨⟨o, vs, v0, e1, e2, e3, e4, e5, e6, e7⟩, _⟩ := (show ObjOk X.prog X.w H2 s2.heap a (.ext (isM a C none)) from I2.hok a _ ea)
  obtain ⟨nm, qn, N, bs, sn, sub, ab, col, dd, k0, k1, k2, k3, k5, hl⟩ := n.cls
  have hc := cls_of hl
  refine exc_set I2.kIn e1 e2 e3 e4 n.sa hc rfl rfl n.tk fun h' d t' hd hda hx hns kp => ?_
  have hHd : H2 d = none := I2.hok.dead hd
  refine ⟨σ, _, ?_, q2 d hHd hda⟩
  have neL : ∀ b, H2 b = none → b ≠ a := fun b z y => by rw [y, ea] at z; cases z
  have nda : ∀ b o, s2.heap.get? b = some o → b ≠ d := fun b o z y => by rw [y, hd] at z; cases z
  have old : ∀ b u, H2 b = some u → b ≠ a → upd (upd H2 d (.xd [("name", y)])) a (.ext (isM a C (some d))) b = some u := fun b u z nb => by
    rw [upd_ne nb, upd_ne (fun y => by rw [y, hHd] at z; cases z)]; exact z
  refine I2.step (g' := s2.gens) (d' := s2.drawn) (t' := t') (ch := []) (fun _ z => nomatch z) (fun b o _ _ _ z n => kp b o (neL b n) z) (fun b o _ _ _ z n => ⟨o.slots, kp b o (neL b n) z⟩) (fun b o _ z n => ?_) (fun b o _ z => ?_) (fun b xs z => old b _ z (fun y => by rw [y, ea] at z; cases z)) (fun b o u z => old b _ z (fun y => by rw [y, ea] at z; cases z)) (fun b ps z => ⟨#[], by rw [Array.append_empty]; exact old b _ z (fun y => by rw [y, ea] at z; cases z)⟩) (fun m hm => ?_) (fun b u z => ?_) I2.bare
  · rw [upd_ne (neL b n), upd_ne (nda b o z)]; exact n
  · by_cases hb : b = a
    · exact ⟨_, hb ▸ hx⟩
    · exact ⟨o, kp b o hb z⟩
  · obtain ⟨o', es, ep, z, r⟩ := hm
    exact ⟨o', es, ep, kp _ _ (neL _ I2.free) z, r⟩
  · by_cases hb : b = a
    · subst hb
      rw [upd_same] at z
      cases z
      exact isM.ext ⟨_, vs, v0, hx, e2, rfl, e4, e5, e6, e7⟩
    · by_cases hb2 : b = d
      · subst hb2
        rw [upd_ne hb, upd_same] at z
        cases z
        refine ⟨_, hns, fun f => ?_⟩
        by_cases hf : f = Str.ofString "name"
        · subst hf; rw [if_pos rfl]; simp [List.lookup]; exact ry
        · rw [if_neg hf]
          have : (f == Str.ofString "name") = false := beq_eq_false_iff_ne.mpr hf
          simp [List.lookup, this]; trivial
      · rw [upd_ne hb, upd_ne hb2] at z
        refine (I2.hok b u z).stay (fun c v hc' q' => ?_) (fun c z' => old c _ z' (fun y => by rw [y, ea] at z'; cases z')) fun c xs z' => old c _ z' (fun y => by rw [y, ea] at z'; cases z')
        refine kp c v ?_ q'
        rcases hc' with rfl | hc'
        · exact hb
        · intro y; rw [y, ea] at hc'; cases hc'
def del (H : Hp) (a : Addr) : Hp := fun b => if b = a then none else H b
theorem del_ne {H : Hp} {a b : Addr} (h : b ≠ a) : del H a b = H b := if_neg h
theorem del_same {H : Hp} {a : Addr} : del H a a = none := if_pos rfl
theorem Inv.untrack {X : Cx} {pins : List (Addr × Obj)} {σ : St} {H : Hp} {s : Shared} {a : Addr} {φ : Heap → Prop} (I : Inv X pins σ H s) (e : H a = some (.ext φ)) : Inv X pins σ (del H a) s := by
  have old : ∀ b u, H b = some u → (∀ φ, u ≠ .ext φ) → del H a b = some u := fun b u z nu => by
    rw [del_ne (fun y => by rw [y, e] at z; exact nu φ (Option.some.inj z).symm)]; exact z
  have fr : ∀ b, H b = none → del H a b = none := fun b z => by unfold del; split <;> first | rfl | exact z
  refine ⟨I.ok, I.os, I.bare, ⟨I.base.keep, I.base.slot, fun b o z n hx => fr b (I.base.free b o z n hx), I.base.there, fun b xs z => old b _ (I.base.tups b xs z) (by intro _ y; cases y), fun b o u z => old b _ (I.base.frzs b o u z) (by intro _ y; cases y), fun b ps z => ?_⟩, I.loc, I.cell, fr _ I.free, fun x c z => fr _ (I.freeC x c z), fun p hp => ?_, fun b u z => ?_, I.len⟩
  · obtain ⟨m, z'⟩ := I.base.tbls b ps z
    exact ⟨m, old b _ z' (by intro _ y; cases y)⟩
  · obtain ⟨e1, e2, e3⟩ := I.pin p hp
    exact ⟨e1, fr _ e2, e3⟩
  · by_cases hb : b = a
    · rw [hb, del_same] at z; cases z
    · rw [del_ne hb] at z
      exact (I.hok b u z).stay (fun _ _ _ q => q) (fun c q => old c _ q (by intro _ y; cases y)) fun c xs q => old c _ q (by intro _ y; cases y)
section
variable {prog : Program} {w : World} {A : Around} {E : Value → Shared → Prop} {s : Shared} {env : Env}
variable {nm q : Str} {C N : Addr} {bs bm bmB : List Value} {hdct : Bool} {sn : List Str} {sub : List Value} {ab : Bool} {col : Option Bool} {dd : Option Addr} {k0 k1 k2 k3 k5 : Option Value} {newId : String}
theorem raise_made {x : Sem Value} {Q : Flow → Shared → Prop} (hbase : bm.contains (.type "BaseException") = true) (hh : A.handled = none)
    (h : wpAny (model prog w) A x (fun v s₁ => ∃ e oe vs, v = .ref e ∧ s₁.heap.get? C = some (excClassObj nm q C N bs bm hdct sn sub ab col dd k0 k1 k2 k3 k5 newId) ∧
      s₁.heap.get? e = some oe ∧ oe.cls = .ref C ∧ oe.data = .fields vs ∧ vs[1]? = some .none ∧ E (.ref e) s₁) E s) :
    wpAny (model prog w) A (raiseStmt env (some x) none) Q E s := by
  have hcB : (Value.ref C :: bm).contains (.type "BaseException") = true := by rw [List.contains_cons, hbase, Bool.or_true]
  unfold raiseStmt
  refine wpAny_bind (wpAny_mono h (fun v s₁ h₁ => ?_) fun _ _ x => x)
  obtain ⟨e, oe, vs, rfl, hC, he, hcls, hdat, hv1, hE⟩ := h₁
  obtain ⟨hp, g, d, tk, os⟩ := s₁
  repeat (first | (with_reducible refine wpAny_loadPart_at he ?_; first | rw [hcls] | rw [hdat]) | with_reducible refine wpAny_loadPart_at hC ?_ | (with_reducible refine wpAny_isSubtype_exc hC ?_; rw [hcB]) | wp_step)
  rw [hdat]
  refine wpAny_pure ?_
  rw [hv1]
  refine wpAny_pure ?_
  rw [if_neg (by decide)]
  exact wpAny_pure (wpAny_raiseNew_none hh hE)
end
def NmT (n : Str) : Prop := n.length ≤ 1000 ∧ ∀ c ∈ n.cps.toList, c < 1114112
def tRaiseN (C : Addr) (E : St → XK) (ta : TA) : TS := fun _ σ H => ta σ H fun vs H1 => ∃ n, vs = [.str n] ∧ NmT n ∧ ∀ d, H1 d = none → E σ (.ref C) (some d) (upd H1 d (.xd [("name", .str n)]))
def tRaiseP (C : Addr) (E : St → XK) (ta : TA) : TS := fun _ σ H => ta σ H fun vs H1 => vs.length ≤ sizeLine ∧ E σ (.ref C) none H1
def sp_initN (K : PySem.W.Frag) (C : Addr) : Sp := fun vs H Q _ => ∃ a n, vs = [.ref a, .str n] ∧ NmT n ∧ H a = some (.ext (isM a C none)) ∧ ∀ d, H d = none → d ≠ a → Q .non (upd (upd H d (.xd [("name", .str n)])) a (.ext (isM a C (some d))))
theorem ps_raiseN {X : Cx} {E : St → XK} {C W fI : Addr} {k : Nat} {x : Str} {np cpos pos : Pos} {e : Expr} {ta : TA} (hX : RaiseOkD X E) (hc : X.calm = true) (ha : PA X [e] ta) (hg : Gl X x) (hm : X.mg x = some (.ref C)) (hq : ExN X.K C W fI) (hr : Room (k + 1) X.A)
    (F : Cal X.prog X.w X.K X.mg X.base k fI ["self", "name"] [] (sp_initN X.K C)) (hex : X.ex = [])
    (hs : starEach [e] X.env = (false, eval e X.env) :: starEach [] X.env := by rfl) (hplain : (backTo cpos (starEach [e] X.env)).any (·.1) = false := by rfl) (hdb : (x == ("__debug__" : Str)) = false := by decide) :
    PS X (.Raise (some (.Call (.Name x np) [e] [] cpos)) none pos) (tRaiseN C E ta) := by
  intro pins s σ H D I h
  obtain ⟨nm, qn, N, bs, sn, sub, ab, col, dd, k0, k1, k2, k3, k5, hl⟩ := hq.cls
  have T := hq.tail I.kIn
  rw [arm_exec_Raise]
  refine wpAny_bind (wpAny_standAt ?_)
  show wpAny _ _ (raiseStmt X.env (some (do let v ← eval (.Call (.Name x np) [e] [] cpos) X.env; standAt pos; pure v)) none) _ _ s
  refine raise_made (C := C) (nm := nm) (q := qn) (N := N) (bs := bs) (bm := .ref W :: veB) (hdct := true) (sn := sn) (sub := sub) (ab := ab) (col := col) (dd := dd) (k0 := k0) (k1 := k1) (k2 := k2) (k3 := k3) (k5 := k5) (newId := "ValueError.__new__") (T.hasType (by decide)) (I.ok.hd hc) ?_
  refine wpAny_bind (wpAny_mono (Q := fun v s₁ => ∃ e oe vs, v = .ref e ∧ s₁.heap.get? C = some (excClassObj nm qn C N bs (.ref W :: veB) true sn sub ab col dd k0 k1 k2 k3 k5 "ValueError.__new__") ∧ s₁.heap.get? e = some oe ∧ oe.cls = .ref C ∧ oe.data = .fields vs ∧ vs[1]? = some .none ∧ X.xe (.ref e) s₁) ?_ (fun v s₁ z => wpAny_bind (wpAny_standAt (wpAny_pure z))) fun _ _ z => z)
  refine wpAny_Call_ofName (ld_glob I hg hm ?_ hdb)
  have hA := ha cpos pins s σ H _ I h
  unfold callWith
  refine wpAny_bind (wpAny_holding ?_)
  rw [hs] at hA hplain ⊢
  refine Calls.evalArgs_plain (thn hA fun us s1 ⟨vs, H1, I1, r1, n, hv, hn, q1⟩ => ?_)
  refine wpAny_bind (wpAny_standAt ?_)
  simp only [hplain]
  have hC1 := I1.kIn _ _ hl
  have T1 := hq.tail I1.kIn
  have hul : us.length ≤ sizeLine := by rw [← r1.length, hv, sizeLine_eq]; simp
  obtain ⟨hp, g, d, tk, os⟩ := s1
  refine wpAny_bind (wpAny_keeperOf_exc hC1 ?_)
  obtain ⟨fd, ds, F, hb, hds⟩ := F.ex
  cases hds
  refine wpAny_bind (call_exc_initT PySem.F.excBase_ValueError T1 I1.kIn hC1 hq.init hq.fn (fun h' e hm => ?_) hul)
  obtain ⟨t0, e1, _, _⟩ := hm.there
  have I2 : Inv X pins σ H1 ⟨h', g, d, tk, os⟩ := I1.kept (t' := tk) fun b u z => hm.keeps b u z
  have dead : X.s₀.heap.get? e = none := by
    cases q' : X.s₀.heap.get? e with
    | none => rfl
    | some o =>
      obtain ⟨o2, z2⟩ := I1.base.there e o q' (by rw [hex]; intro y; cases y)
      rw [hm.new] at z2
      cases z2
  have hHe : H1 e = none := I1.hok.dead hm.new
  have I3 : Inv X pins σ (upd H1 e (.ext (isM e C none))) ⟨h', g, d, tk, os⟩ := I2.trackE hHe dead (fun y => by
      obtain ⟨m, ⟨o, _, _, ho, _⟩, _⟩ := I1.loc
      rw [← y, hm.new] at ho
      cases ho) (fun x c z y => by
      obtain ⟨v, o, ho, _⟩ := I1.cell x c z
      rw [y, hm.new] at ho
      cases ho) (fun p hp' y => by
      have ho := (I1.pin p hp').1
      rw [y, hm.new] at ho
      cases ho) (isM.ext ⟨_, _, _, e1, rfl, rfl, rfl, rfl, rfl, rfl⟩)
  have r2 : Vals [.ref e, .str n] (.ref e :: us) := .cons rfl (hv ▸ r1)
  have hsp : sp_initN X.K C [.ref e, .str n] (upd H1 e (.ext (isM e C none))) (fun v H2 => v = .non ∧ ∃ d, H1 d = none ∧ d ≠ e ∧ H2 = upd (upd (upd H1 e (.ext (isM e C none))) d (.xd [("name", .str n)])) e (.ext (isM e C (some d)))) E0 :=
    ⟨e, n, rfl, hn, upd_same, fun d' h1 h2 => ⟨rfl, d', by rw [upd_ne h2] at h1; exact h1, h2, rfl⟩⟩
  have hlen : (Value.ref e :: us ++ []).length = ["self", "name"].length := by have := r2.length; simp at this ⊢; omega
  have hbd := hb ⟨h', g, d, tk, os⟩ (.ref e :: us) I2.kIn hlen
  rw [List.append_nil] at hbd
  refine wpAny_call (codeAny_mono (F.run _ X.stack ⟨h', g, d, tk, os⟩ _ ⟨.ref e :: us, []⟩ (.ref e :: us) _ _ E0 (hr.make C us []) (I3.env0.make C us []) hbd r2 hsp) fun r s' hq' => ?_)
  cases r with
  | error e => exact hq'.elim
  | ok fl =>
    cases fl with
    | next => exact False.elim hq'
    | brk => exact False.elim hq'
    | cont => exact False.elim hq'
    | ret u =>
      obtain ⟨v, H', I4, rv, ev, d', hd1, hd2, rfl⟩ := I3.after hq'
      subst ev
      refine ⟨rv, wpAny_bind (wpAny_holding (wpAny_point (wpAny_pure ?_)))⟩
      obtain ⟨⟨oe, ws, v0, f1, f2, f3, f4, f5, f6, f7⟩, _⟩ := (show ObjOk X.prog X.w _ s'.heap e (.ext (isM e C (some d'))) from I4.hok e _ upd_same)
      refine ⟨e, oe, ws, rfl, I4.kIn _ _ hl, f1, f2, f4, f6, ?_⟩
      have eH : del (upd (upd (upd H1 e (.ext (isM e C none))) d' (.xd [("name", .str n)])) e (.ext (isM e C (some d')))) e = upd H1 d' (.xd [("name", .str n)]) := by
        funext b
        by_cases hbe : b = e
        · subst hbe; rw [del_same, upd_ne (Ne.symm hd2), hHe]
        · rw [del_ne hbe, upd_ne hbe]
          unfold upd
          split <;> first | rfl | (rw [if_neg hbe])
      have I5 := I4.untrack upd_same
      rw [eH] at I5
      exact hX pins σ _ s' e C (some d') oe ws I5 f1 f2 f3 f4 f6 f7 (by rw [upd_ne (Ne.symm hd2)]; exact hHe) dead (q1 d' hd1)
theorem ps_raiseP {X : Cx} {E : St → XK} {C : Addr} {x : Str} {np cpos pos : Pos} {e : Expr} {ta : TA} (hX : RaiseOkD X E) (hc : X.calm = true) (ha : PA X [e] ta) (hg : Gl X x) (hm : X.mg x = some (.ref C)) (hq : ExcK X.K C) (hex : X.ex = [])
    (hs : starEach [e] X.env = (false, eval e X.env) :: starEach [] X.env := by rfl) (hplain : (backTo cpos (starEach [e] X.env)).any (·.1) = false := by rfl) (hdb : (x == ("__debug__" : Str)) = false := by decide) :
    PS X (.Raise (some (.Call (.Name x np) [e] [] cpos)) none pos) (tRaiseP C E ta) := by
  intro pins s σ H D I h
  obtain ⟨bm, N, nm, q, bs, hd, sn, sub, ab, col, dd, k0, k1, k2, k3, k5, mN, hC, hN, hni, T⟩ := exc_of I.mod.kin hq
  refine wpAny_Raise_call_subT (C := C) (nm := nm) (q := q) (N := N) (bs := bs) (bm := bm) (hdct := hd) (sn := sn) (sub := sub) (ab := ab) (col := col) (dd := dd) (k0 := k0) (k1 := k1) (k2 := k2) (k3 := k3) (k5 := k5) (mN := mN) PySem.F.excBase_ValueError (T.hasType (by decide)) (I.ok.hd hc) hplain hni (ld_glob I hg hm ⟨rfl, ?_⟩ hdb)
  have hA := ha cpos pins s σ H _ I h
  rw [hs] at hA ⊢
  refine Calls.evalArgs_plain (thn hA fun us s1 ⟨vs, H1, I1, r1, hul, q1⟩ => ?_)
  rw [r1.length] at hul
  refine ⟨rfl, hul, I1.bk _ _ hC, hN.at' fun o e => I1.bk _ _ e, T.keeps I1.bk, fun h2 a m => ?_⟩
  obtain ⟨t0, e1, _, _⟩ := m.there
  have I2 : Inv X pins σ H1 { s1 with heap := h2 } := I1.kept (t' := s1.toks) fun b u z => m.keeps b u z
  have dead : X.s₀.heap.get? a = none := by
    cases q' : X.s₀.heap.get? a with
    | none => rfl
    | some o =>
      obtain ⟨o2, z2⟩ := I1.base.there a o q' (by rw [hex]; intro y; cases y)
      rw [m.new] at z2
      cases z2
  exact hX pins σ H1 _ a C none _ _ I2 e1 rfl rfl rfl rfl rfl (I1.hok.dead m.new) dead q1
end L2
namespace L2
open PySem PySem.Spec PyProof.Rows PySem.W
theorem exc_matchB {M : Model} {A : Around} {E : Value → Shared → Prop} {h : Heap} {g : Array GenState} {d : Drawn} {t : Nat} {os : OsState} {a C D N N' : Addr} {oe : Obj} {nm q nm' q' : Str} {bs bm bs' bm' sub sub' : List Value} {hdct hdct' ab ab' : Bool} {sn sn' : List Str} {col col' : Option Bool} {dd dd' : Option Addr} {k0 k1 k2 k3 k5 l0 l1 l2 l3 l5 : Option Value} {newId newId' : String} {Q : Bool → Shared → Prop} {b : Bool}
    (hC : h.get? C = some (excClassObj nm q C N bs bm hdct sn sub ab col dd k0 k1 k2 k3 k5 newId)) (hD : h.get? D = some (excClassObj nm' q' D N' bs' bm' hdct' sn' sub' ab' col' dd' l0 l1 l2 l3 l5 newId')) (he : h.get? a = some oe) (hcls : oe.cls = .ref C) (hb : bm'.contains (.type "BaseException") = true)
    (hit : (Value.ref C :: bm).contains (.ref D) = b) (hq : Q b ⟨h, g, d, t, os⟩) : wpAny M A (excMatches (.ref a) (.ref D)) Q E ⟨h, g, d, t, os⟩ := by
  have c1 : (Value.ref D :: bm').contains (.type "BaseException") = true := by rw [List.contains_cons, hb, Bool.or_true]
  have f := tc_notTuple
  unfold excMatches
  cases b
  · repeat (first | (with_reducible refine wpAny_loadPart_at he ?_; rw [hcls]) | with_reducible refine wpAny_loadPart_at hD ?_ | (with_reducible refine wpAny_isSubtype_exc hD ?_; rw [c1]) | (with_reducible refine wpAny_isSubtype_exc hC ?_; rw [hit]) | wp_step)
    all_goals exact hq
  · repeat (first | (with_reducible refine wpAny_loadPart_at he ?_; rw [hcls]) | with_reducible refine wpAny_loadPart_at hD ?_ | (with_reducible refine wpAny_isSubtype_exc hD ?_; rw [c1]) | (with_reducible refine wpAny_isSubtype_exc hC ?_; rw [hit]) | wp_step)
    all_goals exact hq
theorem mro_ofB {K : PySem.W.Frag} {h : Heap} {C D N : Addr} {nm q : Str} {bs bm sub : List Value} {hdct ab : Bool} {sn : List Str} {col : Option Bool} {dd : Option Addr} {k0 k1 k2 k3 k5 : Option Value} {newId : String} {b : Bool} (X : K.In h) (hC : h.get? C = some (excClassObj nm q C N bs bm hdct sn sub ab col dd k0 k1 k2 k3 k5 newId)) (hm : PySem.W.mroIn K C (.ref D) = some b) : (Value.ref C :: bm).contains (.ref D) = b := by
  unfold PySem.W.mroIn PySem.W.clsIn at hm
  split at hm
  · rename_i c' d' cd sl ho
    have z := X _ _ ho
    rw [hC] at z
    cases z
    simpa using hm
  · cases hm
theorem TrD.keeps {h h' : Heap} {a T : Addr} {c : Value} {od : Option Addr} (t : TrD h a T c od) (k : ∀ b o, h.get? b = some o → h'.get? b = some o) : TrD h' a T c od := by
  obtain ⟨oe, vs, oT, ts, e1, e2, e3, e4, e5, e6, e7, e8⟩ := t
  exact ⟨oe, vs, oT, ts, k _ _ e1, e2, e3, e4, e5, e6, k _ _ e7, e8⟩
def ClD (X : Cx) (cl : Expr) (hit : Addr → Bool → Prop) : Prop := ∀ (a C T : Addr) (od : Option Addr) (pins : List (Addr × Obj)) (σ : St) (H : Hp) (s : Shared) (Q : Bool → Shared → Prop) (E : Value → Shared → Prop) (b : Bool), Inv X pins σ H s → TrD s.heap a T (.ref C) od → hit C b →
  (∀ h', (∀ b o, s.heap.get? b = some o → h'.get? b = some o) → Q b { s with heap := h' }) →
  wpAny (model X.prog X.w) (X.hand a).A (eval cl X.env) (fun c s1 => wpAny (model X.prog X.w) (X.hand a).A (excMatches (.ref a) c) Q E s1) E s
def HitD (K : PySem.W.Frag) (D C : Addr) (b : Bool) : Prop := ExcO K C ∧ PySem.W.mroIn K C (.ref D) = some b
theorem cl_oneD {X : Cx} {x : Str} {np : Pos} {D : Addr} (hg : Gl X x) (hm : X.mg x = some (.ref D)) (hD : ExcO X.K D) (hdb : (x == ("__debug__" : Str)) = false := by decide) : ClD X (.Name x np) (HitD X.K D) := by
  intro a C T od pins σ H s Q E b I tr hit k
  refine ld_glob (X := { X with xe := E }.hand a) (E := E) I.toHand hg hm ?_ hdb
  obtain ⟨bm, N, nm, q, bs, hd, sn, sub, ab, col, dd, k0, k1, k2, k3, k5, hC, _⟩ := hit.1 _ I.kIn
  obtain ⟨bm', N', nm', q', bs', hd', sn', sub', ab', col', dd', l0, l1, l2, l3, l5, hC', T'⟩ := hD _ I.kIn
  obtain ⟨oe, vs, oT, ts', e1, e2, e3, e4, e5⟩ := id tr
  exact exc_matchB hC hC' e1 e2 (T'.hasType (by decide)) (mro_ofB I.kIn hC hit.2) (k _ fun _ _ z => z)
structure HdR where
  hit : Addr → Bool → Prop
  i : Option Nat
  ts : Addr → TS
def setO (σ : St) (i : Option Nat) (v : Option V) : St := match i with
  | some i => σ.set i v
  | none => σ
def NameOk (X : Cx) : Option Str → Option Nat → Prop
  | some n, some i => X.N[i]? = some n ∧ X.env.scope.names.lookup n = some .local
  | none, none => True
  | _, _ => False
inductive HdsOk (X : Cx) : List ExceptHandler → List HdR → Prop
  | nil : HdsOk X [] []
  | cons {cl : Expr} {n : Option Str} {b0 : Stmt} {suite : List Stmt} {pos : Pos} {hs : List ExceptHandler} {hit : Addr → Bool → Prop} {i : Option Nat} {ts : Addr → TS} {rs : List HdR} (hc : ClD X cl hit) (hb : ∀ a, PSs (X.hand a) (b0 :: suite) (ts a)) (hn : NameOk X n i) (r : HdsOk X hs rs) :
      HdsOk X (.ExceptHandler (some cl) n (b0 :: suite) pos :: hs) (⟨hit, i, ts⟩ :: rs)
def HdEnds (D : Ends) (i : Option Nat) : Ends := { nx := fun σ H => D.nx (setO σ i none) H, rt := D.rt, bk := fun σ H => D.bk (setO σ i none) H, ct := fun σ H => D.ct (setO σ i none) H }
def HdlP (D : Ends) (σ : St) (C : Addr) (od : Option Addr) (H' : Hp) : List HdR → Prop
  | [] => False
  | r :: rs => (r.hit C true ∧ ∀ a, H' a = none → r.ts a (HdEnds D r.i) (setO σ r.i (some (.ref a))) (upd H' a (.ext (isX a C od)))) ∨ (r.hit C false ∧ HdlP D σ C od H' rs)
def tTryH (tb : (St → XK) → TS) (rs : List HdR) (te : TS) : TS := fun D σ H =>
  tb (fun σ' c od H' => ∃ C, c = .ref C ∧ HdlP D σ' C od H' rs) { D with nx := fun σ' H' => te D σ' H' } σ H
theorem Inv.gone {X : Cx} {pins : List (Addr × Obj)} {σ : St} {H : Hp} {s : Shared} {h' : Heap} {m : Str → Option Value} {n : Str} {v : Option Value} {i : Nat} {t' : Nat} (I : Inv X pins σ H s) (hN : X.N.Nodup) (hi : X.N[i]? = some n)
    (loc : ∀ (j : Nat) (x : Str) (v : V), X.N[j]? = some x → σ[j]? = some (some v) → Vis X.env.scope x → ∃ u, RelV v u ∧ Look X.env s.heap m x u) (ns : h'.Ns X.env.locals (fun x => if x = n then v else m x)) (sb : Heap.SameBut X.env.locals s.heap h') : Inv X pins (σ.set i none) H { s with heap := h', toks := t' } := by
  have old : ∀ b o, X.s₀.heap.get? b = some o → b ≠ X.env.locals := fun b o e => Nat.ne_of_lt (Nat.lt_of_lt_of_le (Heap.lt_size e) I.ok.above)
  refine ⟨I.ok, I.os, I.bare, ⟨fun b o e n hb hx => (sb.2 b (old b o e)).trans (I.base.keep b o e n hb hx), fun b o e n hb hx => ?_, fun b o e n hx => I.base.free b o e n hx, fun b o e hx => ?_, I.base.tups, I.base.frzs, I.base.tbls⟩, ⟨_, ns, fun j x w e1 e2 e3 => ?_⟩, fun x c e => ?_, I.free, I.freeC, fun p hp => ?_, fun b u e => ?_, by rw [List.length_set]; exact I.len⟩
  · obtain ⟨sl, z⟩ := I.base.slot b o e n hb hx
    exact ⟨sl, (sb.2 b (old b o e)).trans z⟩
  · obtain ⟨o2, z⟩ := I.base.there b o e hx
    exact ⟨o2, (sb.2 b (old b o e)).trans z⟩
  · have hji : i ≠ j := fun y => by
      subst y
      rw [List.getElem?_set_self' ] at e2
      cases q : σ[i]? <;> rw [q] at e2 <;> cases e2
    rw [List.getElem?_set_ne hji] at e2
    obtain ⟨u, ru, l⟩ := loc j x w e1 e2 e3
    refine ⟨u, ru, ?_⟩
    have hxn : x ≠ n := fun y => hji (nodup_ix hN hi (y ▸ e1))
    rcases l with ⟨k, l⟩ | ⟨k, c, e, o, ho, hd⟩
    · exact .inl ⟨k, by show (if x = n then v else m x) = _; rw [if_neg hxn]; exact l⟩
    · exact .inr ⟨k, c, e, o, (sb.2 c (I.cne x c e)).trans ho, hd⟩
  · obtain ⟨v, o, ho, hd⟩ := I.cell x c e
    exact ⟨v, o, (sb.2 c (I.cne x c e)).trans ho, hd⟩
  · obtain ⟨e, n, ne, nf, d⟩ := I.pin p hp
    exact ⟨(sb.2 p.1 ne).trans e, n, ne, nf, d⟩
  · refine (I.hok b u e).stay (fun c v hc q => (sb.2 c fun z => ?_).trans q) (fun _ q => q) fun _ _ q => q
    have hc' : H c ≠ none := by
      rcases hc with rfl | hc
      · rw [e]; intro z; cases z
      · rw [hc]; intro z; cases z
    exact hc' (z ▸ I.free)
section
variable {X : Cx} {pins : List (Addr × Obj)} {σ : St} {H : Hp} {a C : Addr} {od : Option Addr} {Dn : Ends}
def Far (X : Cx) (pins : List (Addr × Obj)) (b : Addr) : Prop := X.s₀.heap.get? b = none ∧ b ≠ X.env.locals ∧ (∀ x c, X.env.cells.lookup x = some c → c ≠ b) ∧ ∀ p ∈ X.pn ++ pins, p.1 ≠ b
theorem handle_loop (hN : X.N.Nodup) (ha : H a = none) (fa : Far X pins a) {hs : List ExceptHandler} {rs : List HdR} (ok : HdsOk X hs rs) : ∀ (s : Shared) (T : Addr), Inv X pins σ H s → TrD s.heap a T (.ref C) od → H T = none → Far X pins T → HdlP Dn σ C od H rs →
    wpAny (model X.prog X.w) X.A (handleBy (.ref a) X.env hs) (SP X pins Dn) X.xe s := by
  induction ok with
  | nil => intro s T _ _ _ _ h; exact h.elim
  | @cons cl n b0 suite pos hs hit i ts rs hc hb hn r ih =>
    intro s T J tr hT fT h
    refine wpAny_handleBy_cons (codeAny_handlers_test ?_) (by intro q; cases q)
    rcases h with ⟨h1, hts⟩ | ⟨h1, h2⟩
    · refine hc a C T od pins σ H s _ _ true J tr h1 fun h3 k3 => ?_
      have J3 : Inv X pins σ H { s with heap := h3 } := J.kept (t' := s.toks) fun b u e => k3 b u e
      have tr3 := tr.keeps k3
      have lay : ∀ h4, TrD h4 a T (.ref C) od → (∀ b o, b ≠ T → h3.get? b = some o → h4.get? b = some o) → Inv X pins σ (upd H a (.ext (isX a C od))) { s with heap := h4 } := fun h4 tr4 k4 => by
        have J4 : Inv X pins σ H { s with heap := h4 } := J3.lv (S := [T]) (t' := s.toks) ⟨fun b o _ n2 z => k4 b o (by simpa using n2) z, fun b o m z => ⟨o.slots, k4 b o (fun y => ?_) z⟩⟩ fun b hb => by
          have : b = T := by simpa using hb
          subst this
          exact ⟨hT, fT⟩
        · obtain ⟨oe4, vs4, oT4, ts4, f1, f2, f3, f4, _, _, _, _, _, f5⟩ := id tr4
          exact J4.trackE ha fa.1 fa.2.1 fa.2.2.1 fa.2.2.2 (isX.ext ⟨oe4, vs4, f1, f2, f3, f4, f5⟩)
        · subst y
          obtain ⟨_, _, _, _, _, _, _, _, _, _, f7, f8, _⟩ := id tr3
          obtain ⟨_, o', z', hn⟩ := J3.stack.mem m
          rw [f7] at z'
          cases z'
          exact hn _ f8
      cases n with
      | none =>
        cases i with
        | some _ => exact hn.elim
        | none =>
        refine codeAny_handlers_suite ?_
        refine flightD_again (s := { s with heap := h3 }) tr3 fun h4 tr4 k4 => ?_
        refine wpAny_mono (hb a pins _ _ _ _ (lay h4 tr4 k4).toHand (hts a ha)) (fun fl s7 q7 => ?_) (fun _ _ z => z.elim)
        cases fl with
        | next => obtain ⟨σ7, H7, J7, q8⟩ := q7; exact ⟨_, _, J7.ofHand J.ok, q8⟩
        | brk => obtain ⟨σ7, H7, J7, q8⟩ := q7; exact ⟨_, _, J7.ofHand J.ok, q8⟩
        | cont => obtain ⟨σ7, H7, J7, q8⟩ := q7; exact ⟨_, _, J7.ofHand J.ok, q8⟩
        | ret u => obtain ⟨v, σ7, H7, J7, r7, q8⟩ := q7; exact ⟨v, _, _, J7.ofHand J.ok, r7, q8⟩
      | some nn =>
        cases i with
        | none => exact hn.elim
        | some ii =>
        obtain ⟨hi, hk⟩ := hn
        refine codeAny_handlers_suite_as ?_
        refine flightD_again (s := { s with heap := h3 }) tr3 fun h4 tr4 k4 => ?_
        refine store_ok (X := X.hand a) (v := .ref a) (i := ii) (lay h4 tr4 k4).toHand hN hi (.inl hk) rfl (fun s6 J6 => ?_) (.inr hk)
        refine wpAny_mono (hb a pins s6 _ _ _ J6 (hts a ha)) (fun fl s7 q7 => ?_) (fun _ _ z => z.elim)
        have core : ∀ {σ7 : St} {H7 : Hp}, Inv (X.hand a) pins σ7 H7 s7 → (∀ s8, Inv X pins (σ7.set ii none) H7 s8 → SP X pins Dn fl s8) → wpAny (model X.prog X.w) X.A (do bindName X.env nn .none; unbindBehindTheSuite X.env nn pos) (fun _ s8 => SP X pins Dn fl s8) X.xe s7 := fun {σ7 H7} J7 fin => by
          have J8 := J7.ofHand J.ok
          obtain ⟨m, hns, hloc⟩ := J8.loc
          exact wpAny_nameGoes_keeps hk hns (by rw [J.ok.kind]; rfl) fun h8 v8 hn8 sb => fin _ (J8.gone hN hi hloc hn8 sb)
        cases fl with
        | next => obtain ⟨σ7, H7, J7, q8⟩ := q7; exact core J7 fun s8 J8 => ⟨_, _, J8, q8⟩
        | brk => obtain ⟨σ7, H7, J7, q8⟩ := q7; exact core J7 fun s8 J8 => ⟨_, _, J8, q8⟩
        | cont => obtain ⟨σ7, H7, J7, q8⟩ := q7; exact core J7 fun s8 J8 => ⟨_, _, J8, q8⟩
        | ret u => obtain ⟨v, σ7, H7, J7, r7, q8⟩ := q7; exact core J7 fun s8 J8 => ⟨v, _, _, J8, r7, q8⟩
    · refine hc a C T od pins σ H s _ _ false J tr h1 fun h3 k3 => ?_
      exact ih _ T (J.kept (t' := s.toks) fun b u e => k3 b u e) (tr.keeps k3) hT fT h2
end
theorem ps_tryH {X : Cx} {body orelse : List Stmt} {h0 : ExceptHandler} {hs : List ExceptHandler} {rs : List HdR} {pos : Pos} {tb : (St → XK) → TS} {te : TS}
    (hb : ∀ (f : Value → Shared → Prop) (pn : List (Addr × Obj)) (E' : St → XK), PassesS (CXD X.prog X.w) (X.tryC f pn) E' → PSs (X.tryC f pn) body (tb E')) (ho : PSs X orelse te) (hh : HdsOk X (h0 :: hs) rs)
    (hN : X.N.Nodup) (hst : X.stack = X.env :: X.outer) (hf : X.env.frame = some X.env.locals) (hex : X.ex = []) :
    PS X (.Try body (h0 :: hs) orelse [] pos) (tTryH tb rs te) := by
  intro pins s σ H Dn I h
  refine wpAny_Try_except ?_
  refine wpAny_mono (hb (fun e s1 => wpAny (model X.prog X.w) X.A (noteFrame e X.env) (fun _ s2 => wpAny (model X.prog X.w) X.A (setFlight e none) (fun _ s3 => wpAny (model X.prog X.w) X.A (handleBy e X.env (h0 :: hs)) (SP X pins Dn) X.xe s3) X.xe s2) X.xe s1) (X.pn ++ pins) _ ?_ [] s σ H _ I.toTry h) ?_ (fun e s1 z => z)
  · intro pins' σ' H1 s1 e s2 I1 ⟨a, T, C, od, H', he, os, bare, un, hok, tr, na, nT, ha, hT, C', hCe, hts⟩
    subst he
    cases hCe
    have I2 := I1.call' (ch := []) os un hok bare (fun b z => nomatch z)
    have J := I2.ofTry (pins := pins)
    have I1' := I1.ofTry (pins := pins)
    have deadOf : ∀ {s' : Shared} {σ'' : St} {H'' : Hp}, Inv X pins σ'' H'' s' → ∀ b, s'.heap.get? b = none → Far X pins b := fun {s' σ'' H''} I b z => by
      refine ⟨?_, fun y => ?_, fun x c e y => ?_, fun p hp y => ?_⟩
      · cases q : X.s₀.heap.get? b with
        | none => rfl
        | some o =>
          obtain ⟨o2, z2⟩ := I.base.there b o q (by rw [hex]; intro y; cases y)
          rw [z] at z2
          cases z2
      · obtain ⟨m, ⟨o, _, _, ho, _⟩, _⟩ := I.loc
        rw [← y, z] at ho
        cases ho
      · obtain ⟨v, o, ho, _⟩ := I.cell x c e
        rw [y, z] at ho
        cases ho
      · have ho := (I.pin p hp).1
        rw [y, z] at ho
        cases ho
    have fa := deadOf I1' a na
    have fT := deadOf I1' T nT
    show wpAny _ _ (noteFrame (.ref a) X.env) _ _ s2
    refine noteD_next (base := X.base) (by rw [← hst]; exact J.ok.frames) (by rw [← hst]; exact J.stack) hf tr fun h3 T3 tr3 hT3 lv => ?_
    have J3 : Inv X pins σ' H' { s2 with heap := h3 } := J.lv (S := [a, T]) (t' := s2.toks) (by rw [hst]; exact lv) fun b hb => by
      have : b = a ∨ b = T := by simpa using hb
      rcases this with rfl | rfl
      · exact ⟨ha, fa⟩
      · exact ⟨hT, fT⟩
    have hT3' : H' T3 = none ∧ Far X pins T3 := by
      rcases hT3 with rfl | z
      · exact ⟨hT, fT⟩
      · exact ⟨J.hok.dead z, deadOf J _ z⟩
    exact handle_loop hN ha fa hh _ T3 J3 tr3 hT3'.1 hT3'.2 hts
  · intro f s1 q
    cases f with
    | next => obtain ⟨σ7, H7, J7, q8⟩ := q; exact ho pins s1 σ7 H7 Dn J7.ofTry q8
    | brk => obtain ⟨σ7, H7, J7, q8⟩ := q; exact ⟨σ7, H7, J7.ofTry, q8⟩
    | cont => obtain ⟨σ7, H7, J7, q8⟩ := q; exact ⟨σ7, H7, J7.ofTry, q8⟩
    | ret u => obtain ⟨v, σ7, H7, J7, r7, q8⟩ := q; exact ⟨v, σ7, H7, J7.ofTry, r7, q8⟩
end L2
namespace L2
open PySem PySem.Spec PyProof.Rows PySem.W
def rFldX (K : PySem.W.Frag) : V → Hp → VK → Prop := fun x H Q => ∃ a C W fI d fs v, x = .ref a ∧ H a = some (.ext (isX a C (some d))) ∧ ExN K C W fI ∧ H d = some (.xd fs) ∧ fs.lookup (Str.ofString "name") = some v ∧ Q v H
def tFldX (K : PySem.W.Frag) (ta : TE) : TE := fun σ H Q => ta σ H fun x H1 => rFldX K x H1 Q
theorem pe_fldX {X : Cx} {e : Expr} {ta : TE} {pos : Pos} (he : PE X e ta) (hb : attributeBase e "name" X.env (eval e X.env) = eval e X.env) : PE X (.Attribute e "name" pos) (tFldX X.K ta) := by
  intro pins s σ H Q I h
  refine attr_of hb (thn (he pins s σ H _ I h) fun u s1 ⟨x, H1, I1, rx, a, C, W, fI, d, fs, v, ex, ea, n, ed, l, q⟩ => ?_)
  subst ex
  obtain rfl : u = Value.ref a := rx
  obtain ⟨⟨o, vs, e1, e2, e3, e4, e5⟩, _⟩ := (show ObjOk X.prog X.w H1 s1.heap a (.ext (isX a C (some d))) from I1.hok a _ ea)
  obtain ⟨mA, hns, hr⟩ := (show ObjOk X.prog X.w H1 s1.heap d (.xd fs) from I1.hok d _ ed)
  obtain ⟨od, ho, hl⟩ := lookIn_ns hns
  have J : InstAt s1.heap a o C (some od) := ⟨e1, e2, by unfold notCls; rw [e4], by rw [e3]; exact ho⟩
  obtain ⟨u, hu, ru⟩ := RelO.some_of (v := v) (o := mA (Str.ofString "name")) (by rw [← l]; exact hr _)
  exact exc_get n.te I1.kIn J n.nm (by rw [hl, hu]) (handed_of ru) ⟨v, H1, I1.tok _, ru, q⟩
def rIsiX (K : PySem.W.Frag) : List V → Hp → VK → Prop := fun xs H Q => ∃ a c cv C od b, xs = [.ref a, c] ∧ ClsV c cv ∧ H a = some (.ext (isX a C od)) ∧ (∀ d, od = some d → ∃ fs, H d = some (.xd fs)) ∧ TyE K C ∧ PySem.W.kitOne K (.ref C) cv = some b ∧ Q (.bl b) H
theorem repr_len {x : Str} (h : NmT x) : (reprText x).length ≤ 11000 := by
  unfold reprText
  show ((x.cps.foldl (fun out c => out ++ (Builtin.Str.reprChar (reprQuote x) c).toArray) #[reprQuote x]).push (reprQuote x)).size ≤ _
  rw [Array.size_push, ← Array.foldl_toList]
  have := PySem.StrLaws.foldl_repr_len (reprQuote x) x.cps.toList #[reprQuote x] (fun c hc => by have := h.2 c hc; omega)
  have e1 : (#[reprQuote x] : Array Nat).size = 1 := rfl
  have hl : x.cps.toList.length ≤ 1000 := by rw [Array.length_toList]; exact h.1
  omega
def rFsR : V → Hp → VK → Prop := fun v H Q => ∃ x, v = .str x ∧ NmT x ∧ ∀ z, Q (.str z) H
def tFsR (te : TE) : TE := fun σ H Q => te σ H fun v H1 => rFsR v H1 Q
section
variable {X : Cx} {e : Expr} {te : TE} {y y2 : Str} {k k2 : Nat} {p1 p2 p3 pos : Pos}
theorem piece_r {acc : Str} {Q : Value → Shared → Prop} {R : List (Sem Value)} {pins : List (Addr × Obj)} {s : Shared} {σ : St} {H : Hp} {QV : VK} (he : PE X e te) (I : Inv X pins σ H s) (hacc : acc.length ≤ 1000) (h : te σ H fun v H1 => rFsR v H1 QV)
    (k : ∀ r H1 s1, r.length ≤ 11000 → Inv X pins σ H1 s1 → (∀ z, QV (.str z) H1) → Joins (model X.prog X.w) X.A X.xe R (acc ++ r) (fun out s₁ => out.length ≤ sizeLine ∧ Q (.str out s₁.toks) { s₁ with toks := s₁.toks + 1 }) s1) :
    Joins (model X.prog X.w) X.A X.xe (eval (.FormattedValue e 114 none p1) X.env :: R) acc (fun out s₁ => out.length ≤ sizeLine ∧ Q (.str out s₁.toks) { s₁ with toks := s₁.toks + 1 }) s := by
  show wpAny _ _ (eval (.FormattedValue e 114 none p1) X.env) _ _ s
  refine PySem.wpAny_FormattedValue_repr (thn (he pins s σ H _ I h) fun v s1 ⟨w, H1, I1, r1, x, ex, hx, q⟩ => ?_)
  subst ex
  obtain ⟨t, rfl⟩ := r1
  have hr := repr_len hx
  have hsl : sizeLine = 16777216 := sizeLine_eq
  refine PySem.wpAny_pyReprObj_gives (T := "str") (typeIs_str _ _ _) F.slot_str_repr F.entry_str_repr (F.args_str_repr_1 _) (gives_str_repr x t) ?_ rfl (by omega)
  refine formatField_str (fun t' tk => ⟨reprText x, t', rfl, ?_, ?_⟩) (by omega)
  · rw [strLen_append]; omega
  · exact k _ _ _ hr ((I1.tok _).tok _) q
theorem pe_fsR1 (he : PE X e te) (hy : y.length ≤ 1000) : PE X (.JoinedStr [.FormattedValue e 114 none p1, .Constant (.str y) k p2] pos) (tFsR te) := by
  intro pins s σ H Q I h
  have hsl : sizeLine = 16777216 := sizeLine_eq
  refine wpAny_JoinedStr (piece_r he I (by decide) h fun r H1 s1 hr I1 q => ?_)
  show wpAny _ _ (eval (.Constant (.str y) k p2) X.env) _ _ _
  have e0 : (Str.empty ++ r).length = r.length := by rw [strLen_append]; show 0 + _ = _; omega
  refine Calls.Constant_str ⟨y, _, rfl, ?_, ?_, ?_⟩
  · rw [strLen_append, e0]; omega
  · rw [strLen_append, e0]; omega
  · exact ⟨.str _, H1, (I1.tok _).tok _, ⟨_, rfl⟩, q _⟩
theorem pe_fsR2 (he : PE X e te) (hy : y.length ≤ 1000) : PE X (.JoinedStr [.Constant (.str y) k p2, .FormattedValue e 114 none p1] pos) (tFsR te) := by
  intro pins s σ H Q I h
  have hsl : sizeLine = 16777216 := sizeLine_eq
  have e0 : (Str.empty ++ y).length = y.length := by rw [strLen_append]; show 0 + _ = _; omega
  refine wpAny_JoinedStr ?_
  show wpAny _ _ (eval (.Constant (.str y) k p2) X.env) _ _ _
  refine Calls.Constant_str ⟨y, _, rfl, by rw [e0]; omega, ?_⟩
  refine piece_r he (I.tok _) (by rw [e0]; exact hy) h fun r H1 s1 hr I1 q => ?_
  refine ⟨?_, .str _, H1, I1.tok _, ⟨_, rfl⟩, q _⟩
  rw [strLen_append, e0]; omega
end
section
variable {σ : St} {H : Hp} {Q : VK} {D : Ends} {K : PySem.W.Frag} {C : Addr} {E : St → XK}
theorem r_methS {m : Str} {sp : Sp} {dvs : List V} {ta : TE} {t : TA} (h : ta σ H fun x H1 => ∃ a dx fs, x = .ref a ∧ H1 a = some (.ins C dx fs) ∧ fs.lookup m = none ∧ t σ H1 fun vs H2 => withD sp (x :: (vs ++ dvs)) H2 Q (E σ)) : tMethS C m sp dvs E ta t σ H Q := h
theorem r_raiseN {ta : TA} (h : ta σ H fun vs H1 => ∃ n, vs = [.str n] ∧ NmT n ∧ ∀ d, H1 d = none → E σ (.ref C) (some d) (upd H1 d (.xd [("name", .str n)]))) : tRaiseN C E ta D σ H := h
theorem r_raisedN {n : Str} {H1 : Hp} {G : Value → Option Addr → Hp → Prop} (hn : NmT n) (h : ∀ d, H1 d = none → G (.ref C) (some d) (upd H1 d (.xd [("name", .str n)]))) : ∃ m, [V.str n] = [.str m] ∧ NmT m ∧ ∀ d, H1 d = none → G (.ref C) (some d) (upd H1 d (.xd [("name", .str m)])) := ⟨n, rfl, hn, h⟩
theorem r_raiseP {ta : TA} (h : ta σ H fun vs H1 => vs.length ≤ sizeLine ∧ E σ (.ref C) none H1) : tRaiseP C E ta D σ H := h
theorem r_excInit {t : TA} (h : t σ H fun vs H1 => ExcInitP K vs H1 Q) : tExcInit K t σ H Q := h
theorem r_excInitP {a : Addr} {od : Option Addr} {y : V} (h1 : H a = some (.ext (isM a C od))) (h2 : ExcO K C) (h : Q .non H) : ExcInitP K [.ref a, y] H Q := ⟨a, C, od, [y], rfl, by simp, h1, h2, h⟩
theorem r_sfldX {ta tv : TE} (h : tv σ H fun y H1 => ta σ H1 fun x H2 => ∃ a C W fI, x = .ref a ∧ H2 a = some (.ext (isM a C none)) ∧ ExN K C W fI ∧ ∀ d, H2 d = none → d ≠ a → D.nx σ (upd (upd H2 d (.xd [("name", y)])) a (.ext (isM a C (some d))))) : sFldX K ta tv D σ H := h
theorem r_fsR {te : TE} (h : te σ H fun v H1 => rFsR v H1 Q) : tFsR te σ H Q := h
theorem r_fsRS {x : Str} (hx : NmT x) (h : ∀ z, Q (.str z) H) : rFsR (.str x) H Q := ⟨x, rfl, hx, h⟩
theorem r_fldX {ta : TE} (h : ta σ H fun x H1 => rFldX K x H1 Q) : tFldX K ta σ H Q := h
theorem r_fldXv {a d W fI : Addr} {fs : List (Str × V)} {v : V} (h1 : H a = some (.ext (isX a C (some d)))) (h2 : ExN K C W fI) (h3 : H d = some (.xd fs)) (h4 : fs.lookup (Str.ofString "name") = some v) (h : Q v H) : rFldX K (.ref a) H Q := ⟨a, C, W, fI, d, fs, v, rfl, h1, h2, h3, h4, h⟩
theorem r_tryH {tb : (St → XK) → TS} {rs : List HdR} {te : TS} (h : tb (fun σ' c od H' => ∃ C, c = .ref C ∧ HdlP D σ' C od H' rs) { D with nx := fun σ' H' => te D σ' H' } σ H) : tTryH tb rs te D σ H := h
end
end L2
namespace L2
open PySem PySem.Spec PyProof.Rows PySem.W
theorem pe_fldXK {X : Cx} {K : PySem.W.Frag} (h : X.K = K) {e : Expr} {ta : TE} {pos : Pos} (he : PE X e ta) (hb : attributeBase e "name" X.env (eval e X.env) = eval e X.env) : PE X (.Attribute e "name" pos) (tFldX K ta) := h ▸ pe_fldX he hb
end L2

namespace L2
open PySem PySem.Spec PyProof.Rows PySem.W
abbrev dfN : List (Str × Value) := [("default", Value.none)]
abbrev bestO (its : Array Value) (c : Nat) : Obj := { cls := .type "list", dict := none, data := .seq its c, slots := #[] }
section
variable {prog : Program} {w : World} {A : Around} {R : Result → Shared → Prop} {I S : Addr} {fp wr : List Addr} {n : Nat} {P : Nat → Value → Prop} {St : Nat → Heap → Prop} {bt : Nat → Nat → Bool}
def Bst (P : Nat → Value → Prop) (bt : Nat → Nat → Bool) (j : Nat) (its : Array Value) : Prop := (j = 0 ∧ its = #[]) ∨ ∃ i v, j = i + 1 ∧ P (argBest bt i) v ∧ its = #[v, v]
theorem min_loopD (W : Walks prog w A.in1 I fp wr n P St) (hcmp : CmpOf prog w A.in1 .Lt P bt) (hSf : S ∉ fp) : ∀ (k j : Nat) (s : Shared) (its : Array Value) (c : Nat), n - j = k → j ≤ n → St j s.heap → Bst P bt j its → s.heap.get? S = some (bestO its c) →
    (∀ v h' tk, (n = 0 ∧ v = .none ∨ 0 < n ∧ P (argBest bt (n - 1)) v) → (∀ b o, b ∉ wr → b ≠ S → s.heap.get? b = some o → h'.get? b = some o) → R (.ok (.ret v)) { s with heap := h', toks := tk }) →
    codeAny (model prog w) A (.builtin "min.loop" ⟨[.ref I, .none, .ref S], dfN⟩) R s := by
  have nw : S ∉ wr := fun h => hSf (W.sub _ h)
  have nm : (toString "min" ++ toString ".loop" : String) = "min.loop" := by decide
  intro k
  induction k with
  | zero =>
    intro j s its c hk hj hst hb hS fin
    obtain rfl : j = n := by omega
    refine codeAny_builtin F.entry_min_loop ?_
    rw [Around.under_plainId F.plain_min_loop _]
    refine wpAny_bind (m := seqItems? (.ref S)) (wpAny_seqItems hS rfl ?_)
    refine wpAny_bind (m := tryCatch (pyNext (.ref I)) _) (wpAny_tryCatch (W.done s _ _ hst fun h' tk kp => ?_))
    rcases hb with ⟨hj0, rfl⟩ | ⟨i, v, hji, hv, rfl⟩
    · exact wpAny_bind (wpAny_rule (wpAny_pure (fin .none h' tk (.inl ⟨hj0, rfl⟩) fun b o n1 _ e => kp b o n1 e)))
    · refine wpAny_bind (m := updateSeq S (fun _ => #[])) (wpAny_updateSeq (kp S _ nw hS) rfl (wpAny_bind (wpAny_letGo (wpAny_pure ?_))))
      exact fin v _ tk (.inr ⟨by omega, by rw [hji, Nat.add_sub_cancel]; exact hv⟩) fun b o n1 n2 e => (Heap.get?_update_other _ _ (Ne.symm n2)).trans (kp b o n1 e)
  | succ k ih =>
    intro j s its c hk hj hst hb hS fin
    have hlt : j < n := by omega
    refine codeAny_builtin F.entry_min_loop ?_
    rw [Around.under_plainId F.plain_min_loop _]
    refine wpAny_bind (m := seqItems? (.ref S)) (wpAny_seqItems hS rfl ?_)
    refine wpAny_bind (m := tryCatch (pyNext (.ref I)) _) (wpAny_tryCatch (W.item j s _ _ hlt hst fun v h' tk hP hst' kp => ?_))
    have hS1 := kp S _ nw hS
    have go : ∀ (its' : Array Value) (c' : Nat) (h2 : Heap), Bst P bt (j + 1) its' → h2.get? S = some (bestO its' c') → (∀ b o, b ≠ S → h'.get? b = some o → h2.get? b = some o) → codeAny (model prog w) A (.builtin "min.loop" ⟨[.ref I, .none, .ref S], dfN⟩) R { s with heap := h2, toks := tk } := fun its' c' h2 hb' hS2 kp2 =>
      ih (j + 1) { s with heap := h2, toks := tk } its' c' (by omega) hlt (W.frame _ _ _ hst' fun b hbf o e => kp2 b o (fun z => hSf (z ▸ hbf)) e) hb' hS2 fun v' h3 tk3 hv kp3 => fin v' h3 tk3 hv fun b o n1 n2 e => kp3 b o n1 n2 (kp2 b o n2 (kp b o n1 e))
    rcases hb with ⟨hj0, rfl⟩ | ⟨i, vb, hji, hvb, rfl⟩
    · refine wpAny_bind (m := updateSeq S (fun _ => #[v, v])) (wpAny_updateSeq hS1 rfl ?_)
      rw [nm]
      exact wpAny_pure ⟨plainId_quiet F.plain_min_loop _, go _ _ _ (.inr ⟨0, v, by omega, by rw [hj0] at hP; exact hP, rfl⟩) (Heap.get?_update_self _ hS1 rfl) fun b o nb e => (Heap.get?_update_other _ _ (Ne.symm nb)).trans e⟩
    · refine wpAny_bind (m := tryCatch (holding [v, v] (richCompare .Lt v vb >>= _)) _) (wpAny_tryCatch (wpAny_holding (wpAny_bind (hcmp j (argBest bt i) v vb _ _ _ hP hvb ?_))))
      refine wpAny_bind (wpAny_holding (wpAny_truthy_bool (wpAny_bind (wpAny_letGo (wpAny_pure ?_)))))
      cases hbt : bt j (argBest bt i) with
      | true =>
        rw [if_pos rfl]
        refine wpAny_bind (m := updateSeq S (fun _ => #[v, v])) (wpAny_updateSeq hS1 rfl (wpAny_bind (wpAny_letGo ?_)))
        rw [nm]
        refine wpAny_pure ⟨plainId_quiet F.plain_min_loop _, go _ _ _ (.inr ⟨j, v, rfl, ?_, rfl⟩) (Heap.get?_update_self _ hS1 rfl) fun b o nb e => (Heap.get?_update_other _ _ (Ne.symm nb)).trans e⟩
        rw [hji] at hbt hP ⊢
        rw [argBest, hbt, if_pos rfl]; exact hP
      | false =>
        rw [if_neg (by decide)]
        refine wpAny_bind (wpAny_letGo ?_)
        rw [nm]
        refine wpAny_pure ⟨plainId_quiet F.plain_min_loop _, go _ _ _ (.inr ⟨j, vb, rfl, ?_, rfl⟩) hS1 fun b o _ e => e⟩
        rw [hji] at hbt ⊢
        rw [argBest, hbt, if_neg (by decide)]; exact hvb
end
theorem args_minD (a : Value) : argsOk "min" ⟨[a], dfN⟩ := by unfold argsOk; kernel_rfl
section
variable {prog : Program} {w : World} {A : Around} {E : Value → Shared → Prop} {s : Shared}
theorem call_minD {x : Value} {Q : Value → Shared → Prop}
    (h : wpAny (model prog w) A.in1 (pyIter x) (fun it s2 => ∃ I fp wr n P St bt, it = .ref I ∧ Walks prog w A.in1 I fp wr n P St ∧ St 0 s2.heap ∧ (∀ b ∈ fp, b < s2.heap.objs.size) ∧ CmpOf prog w A.in1 .Lt P bt ∧
      ∀ v h' tk, (n = 0 ∧ v = .none ∨ 0 < n ∧ P (argBest bt (n - 1)) v) → (∀ b o, b ∉ wr → s2.heap.get? b = some o → h'.get? b = some o) → Q v { s2 with heap := h', toks := tk }) E s) :
    wpAny (model prog w) A (call (.builtin "min") [x] dfN) Q E s := by
  have nm : (toString "min" ++ toString ".loop" : String) = "min.loop" := by decide
  have ok := args_minD x
  have go : wpAny (model prog w) A.in1 (Builtin.min ⟨[x], dfN⟩) (fun fin s' => match fin with
      | .done f => (match (Except.ok f : Result) with | .ok (.ret v) => Q v s' | .ok _ => False | .error e => E e s')
      | .again c' => c'.quiet = true ∧ codeAny (model prog w) A c' (fun r s' => match r with | .ok (.ret v) => Q v s' | .ok _ => False | .error e => E e s') s') E s := by
    refine wpAny_bind (m := Builtin.Builtins.bindParams "min" ["key", "default"] 0 ⟨[], dfN⟩) (wpAny_of_eq (show Builtin.Builtins.bindParams "min" ["key", "default"] 0 ⟨[], dfN⟩ = pure [none, some .none] from rfl) ?_)
    refine wpAny_bind (wpAny_pure (wpAny_bind (wpAny_mono h (fun it s2 h2 => ?_) fun _ _ z => z)))
    obtain ⟨I, fp, wr, n, P, St, bt, rfl, W, hst, hfp, hcmp, hQ⟩ := h2
    refine wpAny_bind (wpAny_newObj_type ?_)
    rw [nm]
    refine wpAny_pure ⟨plainId_quiet F.plain_min_loop _, min_loopD (S := s2.heap.objs.size) W hcmp (fun hm => Nat.lt_irrefl _ (hfp _ hm)) n 0 _ #[] _ rfl (Nat.zero_le _) (W.frame _ _ _ hst fun b _ o e => Heap.get?_push_of_some _ e) (.inl ⟨rfl, rfl⟩) (Heap.get?_push_size _ rfl) fun v h' tk hv kp => ?_⟩
    exact hQ v h' tk hv fun b o n1 e => kp b o n1 (Nat.ne_of_lt (Heap.lt_size e)) (Heap.get?_push_of_some _ e)
  refine wpAny_call (codeAny_call_builtin F.plain_min F.entry_min ?_)
  simp only [checkBuiltinCall, F.kind_min]
  cases sg : Manifest.signature? "min" with
  | none => exact wpAny_pure go
  | some g =>
    simp only [argsOk, sg] at ok
    have o2 : Bind.checkArgs "min" g ⟨[x], dfN⟩ = pure () := ok
    show wpAny _ _ (Bind.checkArgs "min" g ⟨[x], dfN⟩) _ _ _
    rw [o2]
    exact wpAny_pure go
end
section
variable {X : Cx}
def rMinVD : V → Hp → VK → Prop := fun x H Q => ∃ (p : Addr) (m : List (Str × PyData)) (ns : List Int), x = .ref p ∧ DAt H p m ∧ m.map (·.2) = ns.map PyData.int ∧ (ns = [] → Q .non H) ∧ ∀ k ∈ ns, (∀ j ∈ ns, k ≤ j) → Q (.int k) H
def tMinVD (te : TE) : TE := fun σ H Q => te σ H fun x H1 => rMinVD x H1 Q
theorem pe_minVD {e : Expr} {te : TE} {p pos apos cpos kpos npos : Pos} {kk : Nat} (he : PE X e te) (hc : X.calm = true) (hg : Gl X "min") (hm : X.mg "min" = none)
    (hbase : attributeBase e "values" X.env (eval e X.env) = eval e X.env := by rfl) (hline : (apos.endLine == cpos.line) = true := by rfl)
    (h2 : backTo pos (starEach [.Call (.Attribute e "values" apos) [] [] cpos] X.env) = (false, eval (.Call (.Attribute e "values" apos) [] [] cpos) X.env) :: backTo pos (starEach [] X.env) := by rfl) :
    PE X (.Call (.Name "min" p) [.Call (.Attribute e "values" apos) [] [] cpos] [⟨some "default", .Constant .none kk npos, kpos⟩] pos) (tMinVD te) := by
  intro pins s σ H Q I h
  refine wpAny_Call_Name_kw (ld_blt I hg hm boot_min ?_ (by decide) (by decide))
  refine callWith_kw ?_ h2 (by rw [h2]; rfl)
  rw [h2]
  refine Calls.spliced_cons (wpAny_Call_method0_late hbase hline (thn (he pins s σ H _ I h) fun v s1 ⟨y, H1, I1, r1, q1⟩ => ?_))
  obtain ⟨d, m, ns, rfl, ⟨kvs, hd, dk⟩, hmn, q0, q⟩ := q1
  obtain ⟨h1, h2⟩ := tyV_is I1 (T := "dict") r1 (.inr (.inr (.inl ⟨rfl, .inl ⟨kvs, hd⟩⟩)))
  cases r1
  refine ⟨"dict", "dict.values", PySem.F.plainAttrs_dict, PySem.F.slot_dict_values, PySem.F.type_dict_values, h1, h2, Calls.callWith_builtin rfl (PySem.evalArgs_none ?_)⟩
  obtain ⟨_, hs, vs, kv, o, es, ep, ho, a2, a3, a4⟩ := (show ObjOk X.prog X.w H1 s1.heap d (.dK kvs) from I1.hok d _ hd)
  have da : s1.heap.DictAt (mixKind X.prog X.w) d vs ep := ⟨o, es, ho, a2, a3, a4⟩
  have hlt : d < s1.heap.objs.size := Heap.lt_size ho
  have hlen : vs.length = kvs.length := kv.length.symm
  refine call_meetsIn PySem.F.slot_dict_values da.dictOf.typeIs PySem.F.entry_dict_values (PySem.F.args_dict_values_1 _) (meets_dict_values (mixKind X.prog X.w) d hs) ⟨⟨vs, da.dictOf⟩, ?_⟩
  refine Calls.spliced_nil ?_
  refine wpAny_evalAll_cons (wpAny_bind (show wpAny _ _ (eval (.Constant .none kk npos) X.env) _ _ _ from wpAny_pure (wpAny_bind (wpAny_standAt (wpAny_pure (wpAny_evalAll_nil ?_))))))
  show wpAny _ _ (call (.builtin "min") [.ref s1.heap.objs.size] dfN) _ _ _
  have hsz : (s1.heap.push { cls := .type "dict_values", data := .fields #[.ref d] }).objs.size = s1.heap.objs.size + 1 := Heap.size_push ..
  have hA : X.A.in1.handled = none := I1.ok.hd hc
  have hnl : ns.length = kvs.length := by
    have := congrArg List.length hmn
    rw [List.length_map, List.length_map] at this
    rw [← this]; exact dk.length.symm
  refine call_minD (wpAny_pyIter_values (v := s1.heap.objs.size) ⟨_, Heap.get?_push_size _ rfl, rfl, rfl⟩ (da.push _) ?_)
  refine ⟨_, _, _, _, _, _, fun i j => decide (ns.getD i 0 < ns.getD j 0), rfl, Walks.dictValues (knd := mixKind X.prog X.w) hA _ d (Nat.ne_of_lt (by rw [hsz]; exact Nat.lt_succ_of_lt hlt)) vs ep, ⟨⟨_, Heap.get?_push_size _ rfl, rfl, rfl⟩, (da.push _).push _⟩, ?_, CmpOf.ints_lt (fun i => ns.getD i 0) ?_, ?_⟩
  · intro b hb
    rw [Heap.size_push]
    have : b = (s1.heap.push { cls := .type "dict_values", data := .fields #[.ref d] }).objs.size ∨ b = d := by simpa using hb
    rcases this with rfl | rfl
    · exact Nat.lt_succ_self _
    · rw [hsz]; exact Nat.lt_succ_of_lt (Nat.lt_succ_of_lt hlt)
  · rintro i v ⟨k, hv⟩
    exact vals_at hlen kv dk hmn hv
  · intro v h' tk hv hk
    have I2 : Inv X pins σ H1 { s1 with heap := s1.heap.push { cls := .type "dict_values", data := .fields #[.ref d] } } := I1.kept (t' := s1.toks) fun b o e => Heap.get?_push_of_some _ e
    have fp := I2.fpOk (H' := H1) (Nat.le_refl _) (I2.hok.fresh (Nat.le_refl _))
    have I3 := I2.turned (t' := tk) (h' := h') (it := (s1.heap.push { cls := .type "dict_values", data := .fields #[.ref d] }).objs.size) (fun b o hb e => hk b o (by simpa using hb) (Heap.get?_push_of_some _ e)) fp.1 fp.2.1 fp.2.2.2.1 fp.2.2.2.2.1 fp.2.2.2.2.2
    rcases hv with ⟨hn, rfl⟩ | ⟨hn, k, hv⟩
    · exact ⟨.non, H1, I3, rfl, q0 (List.length_eq_zero_iff.mp (by omega))⟩
    · have b := best_lt (fun i => ns.getD i 0) (vs.length - 1)
      generalize argBest (fun i j => decide (ns.getD i 0 < ns.getD j 0)) (vs.length - 1) = ix at b hv
      obtain ⟨b1, b2⟩ := b
      obtain ⟨t, rfl⟩ := vals_at hlen kv dk hmn hv
      have hb : ix < ns.length := by omega
      refine ⟨.int _, H1, I3, ⟨t, rfl⟩, q _ ?_ ?_⟩
      · rw [List.getD_eq_getElem?_getD, List.getElem?_eq_getElem hb]; exact List.getElem_mem hb
      · intro k hk
        obtain ⟨j, hj, rfl⟩ := List.getElem_of_mem hk
        have := b2 j (by omega)
        rwa [List.getD_eq_getElem?_getD (i := j), List.getElem?_eq_getElem hj] at this
end
section
variable {σ : St} {H : Hp} {Q : VK} {D : Ends} {K : PySem.W.Frag}
theorem r_minVDT {te : TE} (h : te σ H fun x H1 => rMinVD x H1 Q) : tMinVD te σ H Q := h
theorem r_minVD {p : Addr} {m : List (Str × PyData)} {ns : List Int} (hp : DAt H p m) (hm : m.map (·.2) = ns.map PyData.int) (h0 : ns = [] → Q .non H) (h : ∀ k ∈ ns, (∀ j ∈ ns, k ≤ j) → Q (.int k) H) : rMinVD (.ref p) H Q := ⟨p, m, ns, rfl, hp, hm, h0, h⟩
def ForE (K : PySem.W.Frag) (vs : List V) (g : TG) (tb : TS) (D : Ends) (σ : St) (H1 : Hp) : Prop := ∃ a, vs = [.ref a] ∧ (∃ xs, SqL K H1 a xs) ∧ ∃ W : Nat → Nat → St → Hp → Prop, (∃ m, W 0 m σ H1) ∧ ∀ i m σ H, W i m σ H →
      ((Itn K a).stop i H ∧ D.nx σ H) ∨ ((Itn K a).go i H ∧ ∃ N : St → Hp → Prop, (∀ σ' H', N σ' H' → ∃ m', m' < m ∧ W (i + 1) m' σ' H') ∧ ∀ x H', (Itn K a).yld i H x H' → g x σ H' fun σ2 H2 => tb { D with nx := N, ct := N, bk := D.nx } σ2 H2)
theorem r_forE {ta : TA} {g : TG} {tb : TS} (h : ta σ H fun vs H1 => ForE K vs g tb D σ H1) : tFor (iEnum K ta) g tb D σ H := h
theorem forEI {Hb : Hp} {v : V} {cs : List Int} {g : TG} {tb : TS} (hl : Dv Hb v (.list (cs.map PyData.int))) (Pv : Nat → St → Hp → Prop) (h0 : Pv 0 σ H) (hk : ∀ i σ H', i ≤ cs.length → Pv i σ H' → ∀ a xs, v = .ref a → SqL K Hb a xs → SqL K H' a xs)
    (hs : ∀ i c t σ H', cs[i]? = some c → Pv i σ H' → H' t = none → g (.ref t) σ (upd H' t (.tup [.int (i : Int), .int c])) fun σ2 H2 => tb { D with nx := Pv (i + 1), ct := Pv (i + 1), bk := D.nx } σ2 H2) (hd : ∀ σ H', Pv cs.length σ H' → D.nx σ H') : ForE K [v] g tb D σ H := by
  obtain ⟨p, xs, rfl, e, dv⟩ := hl.lst_inv
  have hxl : xs.length = cs.length := by rw [dv.length, List.length_map]
  have at' : ∀ i σ H', i ≤ cs.length → Pv i σ H' → SqL K H' p xs := fun i σ H' hi hp => hk i σ H' hi hp p xs rfl (e K)
  refine ⟨p, rfl, ⟨xs, at' 0 σ H (Nat.zero_le _) h0⟩, fun i m σ H => i ≤ cs.length ∧ m = cs.length - i ∧ Pv i σ H, ⟨_, Nat.zero_le _, rfl, h0⟩, ?_⟩
  rintro i m σ H' ⟨hi, hm, hp⟩
  have hl' := at' i σ H' hi hp
  by_cases hc : i = cs.length
  · subst hc
    exact .inl ⟨⟨xs, hl', by omega⟩, hd σ H' hp⟩
  · have hlx : i < xs.length := by omega
    refine .inr ⟨⟨xs, xs[i], hl', List.getElem?_eq_getElem hlx⟩, Pv (i + 1), fun σ' H2 hp2 => ⟨cs.length - (i + 1), by omega, by omega, rfl, hp2⟩, fun x H2 hy => ?_⟩
    obtain ⟨t, x', hy, rfl, ht, rfl⟩ := hy
    have hx := hy xs hl'
    have hcs : cs[i]? = some cs[i] := List.getElem?_eq_getElem (by omega)
    obtain ⟨x2, hx2, hd⟩ := dv.get (i := i) (d := .int cs[i]) (by rw [List.getElem?_map, hcs]; rfl)
    rw [hx] at hx2
    cases hx2
    obtain rfl := hd.int_inv
    exact hs i cs[i] t σ H' hcs hp ht
end
theorem PS.nox {X : Cx} {st : Stmt} {t : TS} (h : PS X.nox st t) : PS X st t := fun pins s σ H D I hw =>
  wpAny_mono (h pins s σ H D (I.wish _) hw) (fun _ _ q => q.unwish) fun _ _ z => False.elim z
def cstV : Expr → Option V
  | .Constant (.int i) _ _ => some (.int i)
  | .Constant (.str x) _ _ => some (.str x)
  | .Constant (.bool b) _ _ => some (.bl b)
  | .Constant .none _ _ => some .non
  | _ => none
def cstsV : List Expr → Option (List V)
  | [] => some []
  | e :: es => match cstV e, cstsV es with
    | some v, some vs => some (v :: vs)
    | _, _ => none
def tVals (vs : List V) : TA := fun _ H Q => Q vs H
theorem cst_one {X : Cx} {e : Expr} {v : V} (h : cstV e = some v) : PE X e (tC v) ∧ ∀ es : List Expr, starEach (e :: es) X.env = (false, eval e X.env) :: starEach es X.env := by
  unfold cstV at h
  split at h <;> cases h <;> refine ⟨?_, fun _ => rfl⟩
  · exact pe_int
  · exact pe_str
  · exact pe_bl
  · exact pe_non
theorem pa_csts {X : Cx} : ∀ {es : List Expr} {vs : List V}, cstsV es = some vs → PA X es (tVals vs)
  | [], vs, h => by cases h; exact pa_nil
  | e :: es, vs, h => by
    unfold cstsV at h
    split at h
    · rename_i v vs' h1 h2
      cases h
      exact pa_cons (cst_one h1).1 (pa_csts h2) ((cst_one h1).2 es)
    · cases h
theorem r_vals {σ : St} {H : Hp} {vs : List V} {Q : List V → Hp → Prop} (h : Q vs H) : tVals vs σ H Q := h
end L2

set_option maxHeartbeats 4000000
namespace My
open PySem L2
local macro_rules | `(tactic| walk_at "same") => `(tactic| first
  | exact Same.refl _
  | assumption
  | (refine' Same.trans ?m ?s; (case s => assumption); (case m => walk_at "same")))
local macro_rules | `(tactic| walk_at "at") => `(tactic| first
  | assumption
  | exact upd_same
  | (refine' Same.at ?s ?m; (case s => assumption); (case m => walk_at "at")))
local macro_rules | `(tactic| walk_at "dat") => `(tactic| first
  | exact Dv.int _
  | exact Dv.non
  | exact Dv.bl _
  | exact Dv.str _
  | assumption
  | (refine' Dv.keeps ?s ?m; (case s => assumption); (case m => walk_at "dat")))
local macro_rules | `(tactic| walk_at "ins") => `(tactic| first
  | assumption
  | (refine' Ins.keeps ?s ?m; (case s => assumption); (case m => walk_at "ins")))
local macro_rules | `(tactic| walk_at "dats") => `(tactic| first
  | exact Dvs.nil
  | (refine' Dvs.cons ?m ?s; (case m => walk_at "dat"); (case s => walk_at "dats"))
  | assumption
  | (refine' Dvs.keeps ?s ?m; (case s => assumption); (case m => walk_at "dats")))
local macro_rules | `(tactic| walk_at "sql") => `(tactic| first
  | assumption
  | (refine' Same.seq ?s ?m; (case s => assumption); (case m => walk_at "sql")))
local macro_rules | `(tactic| walk_at "isq") => `(tactic| first
  | (refine' Or.inl ?m; case m => walk_at "dat")
  | (refine' Or.inr ?m; case m => walk_at "dat"))
set_option hygiene false in
local macro_rules | `(tactic| walk_at "side") => `(tactic| first
  | omega
  | assumption
  | exact (by decide)
  | exact cdivB (by omega) (by omega)
  | exact cmulB ⟨by omega, by omega⟩ ⟨by omega, by omega⟩
  | exact ⟨by decide, by decide, by decide⟩)
set_option hygiene false in
local macro_rules | `(tactic| walk_at "use") => `(tactic| fail)
set_option hygiene false in
local macro_rules | `(tactic| walk_at "lk") => `(tactic| fail)
set_option hygiene false in
local macro_rules | `(tactic| walk_at "put") => `(tactic| fail)
set_option hygiene false in
local macro_rules | `(tactic| walk_at "fin") => `(tactic| fail)
set_option hygiene false in
local macro_rules | `(tactic| walk_at "wds") => `(tactic| first
  | with_reducible refine r_wd (ws := [_]) rfl ?_
  | with_reducible refine r_wd (ws := [_, _]) rfl ?_
  | with_reducible refine r_wd (ws := [_, _, _]) rfl ?_
  | with_reducible refine r_wd (ws := [_, _, _, _]) rfl ?_
  | with_reducible refine r_wd (ws := [_, _, _, _, _]) rfl ?_
  | with_reducible refine r_wd (ws := [_, _, _, _, _, _]) rfl ?_
  | with_reducible refine r_wd (ws := []) rfl ?_)
set_option hygiene false in
local macro_rules | `(tactic| walk_at "mks") => `(tactic| first
  | fail)
local macro_rules | `(tactic| walk_at "br") => `(tactic| ((with_reducible refine if_bl (fun hb => ?_) (fun hb => ?_)) <;> (try simp only [id, decide_eq_true_eq, decide_eq_false_iff_not, Bool.not_eq_true', Bool.not_eq_false', Bool.not_true, Bool.not_false, V.int.injEq, Bool.true_eq_false, Bool.false_eq_true, reduceCtorEq, decide_true, decide_false, not_true, not_false_iff, PyData.eqv, PyData.eqvAll, Bool.and_eq_true, Bool.and_eq_false_iff, Bool.or_eq_true, Bool.or_eq_false_iff, beq_iff_eq, beq_eq_false_iff_ne, ne_eq, bne_iff_ne, Bool.and_true, Bool.and_false, Bool.and_self, beq_self_eq_true, isInt, isBool, isStr, isLst, isTup, isDct, List.length_cons, List.length_nil] at hb) <;> (try (exfalso; omega)) <;> (try (exfalso; (refine' ref_ne hb ?d); (case d => walk_at "dat")))))
local macro_rules | `(tactic| walk_at "rd1") => `(tactic| first
  | with_reducible refine r_cutS ?_
  | with_reducible refine r_asg ?_
  | with_reducible refine r_ret ?_
  | with_reducible refine r_drop ?_
  | with_reducible refine r_ifS ?_
  | ((with_reducible refine' r_var ?e ?_); case e => exact rfl)
  | with_reducible refine r_c ?_
  | with_reducible refine r_op ?_
  | with_reducible refine r_i0 ?_
  | ((with_reducible refine' r_powE ?e1 ?e2 ?_); (case e1 => exact ⟨by decide, by decide, by decide⟩); (case e2 => ((conv => lhs; simp only [Int.reduceToNat]) <;> exact rfl)))
  | ((with_reducible refine' r_i ?e ?_); case e => walk_at "side")
  | with_reducible refine r_cons ?_
  | with_reducible refine r_nil ?_
  | with_reducible refine r_callN ?_
  | with_reducible refine r_cb ?_
  | with_reducible refine r_test ?_
  | with_reducible refine r_and ?_
  | with_reducible refine r_or ?_
  | with_reducible refine r_not ?_
  | with_reducible refine r_andV ?_
  | with_reducible refine r_notV ?_
  | with_reducible refine r_bl ?_
  | with_reducible refine r_truB ?_
  | with_reducible refine if_true' ?_
  | with_reducible refine if_false' ?_
  | walk_at "br"
  | with_reducible refine r_next ?_
  | ((with_reducible refine' r_eqS ?e ?_); case e => exact rfl)
  | ((with_reducible refine' r_eqD ?e1 ?e2 ?e3 ?e4 ?e5 ?_); (case e1 => walk_at "dat"); (case e2 => walk_at "dat"); (case e3 => first | rfl | assumption); (case e4 => first | rfl | assumption); (case e5 => first | exact Nat.le_of_ble_eq_true rfl | assumption))
  | ((with_reducible refine' r_ixD ?e1 ?e2 ?_); (case e1 => walk_at "isq"); (case e2 => exact rfl))
  | ((with_reducible refine' r_lenK ?e ?_); case e => walk_at "isq")
  | ((with_reducible refine' r_lenL ?e ?_); case e => walk_at "sql")
  | with_reducible refine r_maxP (fun _ _ _ _ => ?_)
  | ((with_reducible refine' r_modP ?e (fun _ _ => ?_)); case e => walk_at "side")
  | with_reducible refine r_is ?_
  | with_reducible refine r_sfld ?_
  | ((with_reducible refine' r_sfldv ?e1 ?e2 ?e3 ?e4 ?e5 ?_); (case e1 => walk_at "at"); (case e2 => assumption); (case e3 => assumption); (case e4 => exact len1000 rfl); (case e5 => walk_at "put"))
  | ((with_reducible refine' r_fldI ?e1 ?e2 ?e3 ?e4 ?_); (case e1 => walk_at "ins"); (case e2 => assumption); (case e3 => assumption); (case e4 => walk_at "lk"))
  | ((with_reducible refine' r_methI ?e1 ?e2 ?_); (case e1 => walk_at "ins"); (case e2 => walk_at "lk"))
  | ((with_reducible refine' r_isi_int ?e ?_); case e => walk_at "dat")
  | ((with_reducible refine' r_isi_bool ?e ?_); case e => walk_at "dat")
  | ((with_reducible refine' r_isi_tup ?e ?_); case e => walk_at "dat")
  | ((with_reducible refine' r_isi_str ?e ?_); case e => walk_at "dat")
  | ((with_reducible refine' r_isi_lst ?e ?_); case e => walk_at "dat")
  | ((with_reducible refine' r_isiI ?e1 ?e2 ?e3 ?e4 ?_); (case e1 => walk_at "ins"); (case e2 => assumption); (case e3 => assumption); (case e4 => assumption))
  | with_reducible refine got_int ?_
  | with_reducible refine got_non ?_
  | with_reducible refine got_str ?_
  | with_reducible refine got_lst (fun _ _ => ?_)
  | with_reducible refine r_tupD ?_
  | ((with_reducible refine' r_tupE ?e1 ?e2 (fun _ _ _ _ => ?_)); (case e1 => exact len64 rfl); (case e2 => walk_at "dats"))
  | with_reducible refine r_lstD ?_
  | with_reducible refine r_for ?_
  | with_reducible refine r_fld ?_
  | with_reducible refine r_methN ?_
  | with_reducible refine r_makeN ?_
  | walk_at "wds"
  | walk_at "mks"
  | walk_at "use"
  | walk_at "fin")
local macro_rules | `(tactic| walk_at "lat") => `(tactic| first
  | assumption
  | (refine' LAt.keeps ?s ?m; (case s => assumption); (case m => walk_at "lat"))
  | (refine' LAt.mv ?s ?n ?m; (case s => assumption); (case n => walk_at "nin"); (case m => walk_at "lat"))
  | fail)
set_option hygiene false in
local macro_rules | `(tactic| walk_at "nin") => `(tactic| first
  | fail)
local macro_rules | `(tactic| walk_at "ne") => `(tactic| first
  | assumption
  | (refine Ne.symm ?_; assumption)
  | (refine' LAt.ne ?h ?n; (case n => assumption); (case h => walk_at "lat"))
  | (refine' Ne.symm (LAt.ne ?h ?n); (case n => assumption); (case h => walk_at "lat"))
  | fail)
local macro_rules | `(tactic| walk_at "dla") => `(tactic| first
  | assumption
  | (refine' DAt.keeps ?s ?m; (case s => assumption); (case m => walk_at "dla"))
  | (refine' DAt.mv ?s ?n ?m; (case s => assumption); (case n => walk_at "nin"); (case m => walk_at "dla"))
  | fail)
local macro_rules | `(tactic| walk_at "ne") => `(tactic| first
  | (refine' DAt.ne ?h ?n; (case n => assumption); (case h => walk_at "dla"))
  | (refine' Ne.symm (DAt.ne ?h ?n); (case n => assumption); (case h => walk_at "dla"))
  | fail)
local macro_rules | `(tactic| walk_at "imm") => `(tactic| first
  | rfl
  | assumption
  | exact immAll_map (fun _ => rfl) _
  | (refine' LAt.imm ?h; (case h => assumption))
  | fail)
set_option hygiene false in
local macro_rules | `(tactic| walk_at "dm") => `(tactic| first
  | exact fun _ h => h
  | fail)
set_option hygiene false in
local macro_rules | `(tactic| walk_at "none") => `(tactic| first
  | assumption
  | fail)
set_option hygiene false in
local macro_rules | `(tactic| walk_at "same") => `(tactic| first
  | fail)
local macro_rules | `(tactic| walk_at "mv") => `(tactic| first
  | exact Mv.refl
  | assumption
  | (refine' Mv.stepS ?m ?s; (case s => assumption); (case m => walk_at "mv"))
  | (refine' Mv.step ?m ?s ?h; (case s => assumption); (case m => walk_at "mv"); (case h => walk_at "ours"))
  | fail)
set_option hygiene false in
local macro_rules | `(tactic| walk_at "ours") => `(tactic| first
  | fail)
local macro_rules | `(tactic| walk_at "dat") => `(tactic| first
  | (refine' LAt.dv ?m; (case m => walk_at "lat"))
  | (refine' Mv.dat ?s ?i ?m; (case s => assumption); (case i => walk_at "imm"); (case m => walk_at "dat"))
  | fail)
local macro_rules | `(tactic| walk_at "dats") => `(tactic| first
  | (refine' Mv.dats ?s ?i ?m; (case s => assumption); (case i => walk_at "imm"); (case m => walk_at "dats"))
  | fail)
set_option hygiene false in
local macro_rules | `(tactic| walk_at "len") => `(tactic| first
  | (simp only [List.length_map, List.length_append, List.length_cons, List.length_nil]; omega)
  | omega
  | fail)
local macro_rules | `(tactic| walk_at "rd1") => `(tactic| first
  | with_reducible refine r_tB ?_
  | with_reducible refine r_dnew (fun _ _ _ _ _ => ?_)
  | with_reducible refine r_dputT ?_
  | with_reducible refine r_dgetT ?_
  | with_reducible refine r_dinT ?_
  | with_reducible refine r_dninT ?_
  | ((with_reducible refine' r_dput ?e1 ?e2 ?e3 ?e4 (fun _ _ _ => ?_)); (case e1 => walk_at "dla"); (case e3 => walk_at "dat"); (case e2 => walk_at "len"); (case e4 => walk_at "imm"))
  | ((with_reducible refine' r_din ?e1 (fun _ _ => ?_)); (case e1 => walk_at "dla"))
  | ((with_reducible refine' r_dget ?e1 ?e2 ?_); (case e1 => walk_at "dla"); (case e2 => assumption))
  | with_reducible refine r_gname ?_
  | with_reducible refine r_bm ?_
  | with_reducible refine r_bm0 ?_
  | ((with_reducible refine' r_tyL ?e ?_); case e => walk_at "lat")
  | ((with_reducible refine' r_clr ?e1 (fun _ _ _ => ?_)); (case e1 => walk_at "lat"))
  | ((with_reducible refine' r_lstA ?e1 ?e2 ?e3 (fun _ _ _ _ _ => ?_)); (case e1 => exact len64 rfl); (case e2 => walk_at "dats"); (case e3 => exact rfl))
  | with_reducible refine r_sl ?_
  | with_reducible refine r_part ?_
  | with_reducible refine r_partI ?_
  | with_reducible refine r_lcT ?_
  | ((with_reducible refine' r_addS ?e ?_); case e => walk_at "len")
  | ((with_reducible refine' r_lenM ?e ?_); case e => walk_at "dat")
  | ((with_reducible refine' r_ixD ?e1 ?e2 ?_); (case e1 => walk_at "isq"); (case e2 => first | exact atI_lastM | (refine' atI_mapI ?a ?b; (case a => omega); (case b => walk_at "len")) | fail))
  | fail)
set_option hygiene false in
local macro_rules | `(tactic| walk_at "rd1") => `(tactic| first
  | fail)
set_option hygiene false in
local macro_rules | `(tactic| walk_at "rd1") => `(tactic| first
  | fail)
local macro_rules | `(tactic| walk_at "rd1") => `(tactic| first
  | with_reducible refine r_raised ?_
  | ((with_reducible refine' r_mulL ?e1 ?e2 ?e3 (fun _ _ _ => ?_)); (case e1 => exact rfl); (case e2 => omega); (case e3 => omega))
  | fail)
set_option hygiene false in
local macro_rules | `(tactic| walk_at "rd1") => `(tactic| first
  | fail)
local macro_rules | `(tactic| walk_at "rd1") => `(tactic| first
  | with_reducible refine r_minVT ?_
  | with_reducible refine r_dget1T ?_
  | ((with_reducible refine' r_dget1 ?e1 ?_); (case e1 => walk_at "dla"))
  | fail)
local macro_rules | `(tactic| walk_at "rd1") => `(tactic| first
  | with_reducible refine r_methS ?_
  | with_reducible refine r_raiseN ?_
  | with_reducible refine r_raiseP ?_
  | with_reducible refine r_excInit ?_
  | with_reducible refine r_sfldX ?_
  | with_reducible refine r_fldX ?_
  | with_reducible refine r_tryH ?_
  | with_reducible refine r_fsR ?_
  | ((with_reducible refine' r_fsRS ?e (fun _ => ?_)); case e => assumption)
  | fail)
set_option hygiene false in
local macro_rules | `(tactic| walk_at "rd1") => `(tactic| first
  | with_reducible refine r_minVDT ?_
  | with_reducible refine r_forE ?_
  | with_reducible refine r_vals ?_
  | fail)

def top (i : Nat) : Stmt := PySem.Challenge.pw_wakefew_k13_row_of_deeds.main.body.getD i (.Pass ⟨0, 0, 0, 0⟩)
abbrev s_Twice___init__ : Stmt := inClass (top 3) 0
theorem sc_Twice___init__ : FnScope ["self", "name"] ["self", "name"] (defScope s_Twice___init__) := ⟨rfl, rfl, rfl, by decide +kernel, rfl, by decide +kernel, by decide +kernel⟩
abbrev s_NoBell___init__ : Stmt := inClass (top 4) 0
theorem sc_NoBell___init__ : FnScope ["self", "name"] ["self", "name"] (defScope s_NoBell___init__) := ⟨rfl, rfl, rfl, by decide +kernel, rfl, by decide +kernel, by decide +kernel⟩
abbrev s_Waits___init__ : Stmt := inClass (top 6) 0
theorem sc_Waits___init__ : FnScope ["self", "now"] ["self", "now"] (defScope s_Waits___init__) := ⟨rfl, rfl, rfl, by decide +kernel, rfl, by decide +kernel, by decide +kernel⟩
abbrev s_Waits_put : Stmt := inClass (top 6) 1
theorem sc_Waits_put : FnScope ["self", "name", "time"] ["self", "name", "time"] (defScope s_Waits_put) := ⟨rfl, rfl, rfl, by decide +kernel, rfl, by decide +kernel, by decide +kernel⟩
abbrev s_Waits_take : Stmt := inClass (top 6) 2
theorem sc_Waits_take : FnScope ["self", "name", "time"] ["self", "name"] (defScope s_Waits_take) := ⟨rfl, rfl, rfl, by decide +kernel, rfl, by decide +kernel, by decide +kernel⟩
abbrev s_Waits_due : Stmt := inClass (top 6) 3
theorem sc_Waits_due : FnScope ["self", "to", "told", "time", "name"] ["self", "to"] (defScope s_Waits_due) := ⟨rfl, rfl, rfl, by decide +kernel, rfl, by decide +kernel, by decide +kernel⟩
abbrev s_Waits_least : Stmt := inClass (top 6) 4
theorem sc_Waits_least : FnScope ["self"] ["self"] (defScope s_Waits_least) := ⟨rfl, rfl, rfl, by decide +kernel, rfl, by decide +kernel, by decide +kernel⟩
abbrev s_Waits_time_of : Stmt := inClass (top 6) 5
theorem sc_Waits_time_of : FnScope ["self", "name"] ["self", "name"] (defScope s_Waits_time_of) := ⟨rfl, rfl, rfl, by decide +kernel, rfl, by decide +kernel, by decide +kernel⟩
abbrev s_Waits_all_of : Stmt := inClass (top 6) 6
theorem sc_Waits_all_of : FnScope ["self"] ["self"] (defScope s_Waits_all_of) := ⟨rfl, rfl, rfl, by decide +kernel, rfl, by decide +kernel, by decide +kernel⟩
abbrev s_Waits_check_waits : Stmt := inClass (top 6) 7
theorem sc_Waits_check_waits : FnScope ["self", "name"] ["self", "name"] (defScope s_Waits_check_waits) := ⟨rfl, rfl, rfl, by decide +kernel, rfl, by decide +kernel, by decide +kernel⟩
abbrev s_Row_enter : Stmt := inClass (top 7) 0
theorem sc_Row_enter : FnScope ["self", "name", "time"] ["self", "name", "time"] (defScope s_Row_enter) := ⟨rfl, rfl, rfl, by decide +kernel, rfl, by decide +kernel, by decide +kernel⟩
abbrev s_Row_leave : Stmt := inClass (top 7) 1
theorem sc_Row_leave : FnScope ["self", "name", "time"] ["self", "name", "time"] (defScope s_Row_leave) := ⟨rfl, rfl, rfl, by decide +kernel, rfl, by decide +kernel, by decide +kernel⟩
abbrev s_Row_pass_on : Stmt := inClass (top 7) 2
theorem sc_Row_pass_on : FnScope ["self", "to"] ["self", "to"] (defScope s_Row_pass_on) := ⟨rfl, rfl, rfl, by decide +kernel, rfl, by decide +kernel, by decide +kernel⟩
abbrev s__law_whole : Stmt := top 9
theorem sc__law_whole : FnScope ["_law_found"] ["_law_found"] (defScope s__law_whole) := ⟨rfl, rfl, rfl, by decide +kernel, rfl, by decide +kernel, by decide +kernel⟩
abbrev s__law_cell_at : Stmt := top 10
theorem sc__law_cell_at : FnScope ["_law_script", "_law_k"] ["_law_script", "_law_k"] (defScope s__law_cell_at) := ⟨rfl, rfl, rfl, by decide +kernel, rfl, by decide +kernel, by decide +kernel⟩
abbrev s__law_mixed : Stmt := top 11
theorem sc__law_mixed : FnScope ["_law_cell", "_law_k", "_law_number"] ["_law_cell", "_law_k"] (defScope s__law_mixed) := ⟨rfl, rfl, rfl, by decide +kernel, rfl, by decide +kernel, by decide +kernel⟩
abbrev s__law_name : Stmt := top 12
theorem sc__law_name : FnScope ["_law_number", "_law_style", "_law_some", "_law_size", "_law_place"] ["_law_number", "_law_style"] (defScope s__law_name) := ⟨rfl, rfl, rfl, by decide +kernel, rfl, by decide +kernel, by decide +kernel⟩
abbrev s__law_later : Stmt := top 13
theorem sc__law_later : FnScope ["_law_cell", "_law_number"] ["_law_cell", "_law_number"] (defScope s__law_later) := ⟨rfl, rfl, rfl, by decide +kernel, rfl, by decide +kernel, by decide +kernel⟩
abbrev s__law_deed : Stmt := top 14
theorem sc__law_deed : FnScope ["_law_cell", "_law_k", "_law_style", "_law_model", "_law_now", "_law_number", "_law_names", "_law_name_here", "_law_time"] ["_law_cell", "_law_k", "_law_style", "_law_model", "_law_now"] (defScope s__law_deed) := ⟨rfl, rfl, rfl, by decide +kernel, rfl, by decide +kernel, by decide +kernel⟩
abbrev s__law_due : Stmt := top 15
theorem sc__law_due : FnScope ["_law_model", "_law_deed_here", "_law_now", "_law_word", "_law_name_here", "_law_time", "_law_found", "_law_when", "_law_one"] ["_law_model", "_law_deed_here", "_law_now"] (defScope s__law_due) := ⟨rfl, rfl, rfl, by decide +kernel, rfl, by decide +kernel, by decide +kernel⟩
abbrev s__law_asked : Stmt := top 16
theorem sc__law_asked : FnScope ["_law_told", "_law_deed_here", "_law_word", "_law_name_here", "_law_time", "e"] ["_law_told", "_law_deed_here"] (defScope s__law_asked) := ⟨rfl, rfl, rfl, by decide +kernel, rfl, by decide +kernel, by decide +kernel⟩
abbrev s__law_pairs_are : Stmt := top 17
theorem sc__law_pairs_are : FnScope ["_law_found", "_law_due_here", "_law_pair"] ["_law_found", "_law_due_here"] (defScope s__law_pairs_are) := ⟨rfl, rfl, rfl, by decide +kernel, rfl, by decide +kernel, by decide +kernel⟩
abbrev s__law_alike : Stmt := top 18
theorem sc__law_alike : FnScope ["_law_found", "_law_due_here"] ["_law_found", "_law_due_here"] (defScope s__law_alike) := ⟨rfl, rfl, rfl, by decide +kernel, rfl, by decide +kernel, by decide +kernel⟩
abbrev s_law : Stmt := top 19
theorem sc_law : FnScope ["_law_script", "_law_style", "_law_now", "_law_told", "_law_model", "_law_k", "_law_cell", "_law_deed_here", "_law_due_here", "_law_held"] ["_law_script"] (defScope s_law) := ⟨rfl, rfl, rfl, by decide +kernel, rfl, by decide +kernel, by decide +kernel⟩
theorem ne_now_times : ¬ (("now" : Str) = "times") := by decide +kernel
theorem ne_times_now : ¬ (("times" : Str) = "now") := by decide +kernel
theorem ne___init___now : ¬ (("__init__" : Str) = "now") := by decide +kernel
theorem ne___init___times : ¬ (("__init__" : Str) = "times") := by decide +kernel
theorem ne_put_now : ¬ (("put" : Str) = "now") := by decide +kernel
theorem ne_put_times : ¬ (("put" : Str) = "times") := by decide +kernel
theorem ne_take_now : ¬ (("take" : Str) = "now") := by decide +kernel
theorem ne_take_times : ¬ (("take" : Str) = "times") := by decide +kernel
theorem ne_due_now : ¬ (("due" : Str) = "now") := by decide +kernel
theorem ne_due_times : ¬ (("due" : Str) = "times") := by decide +kernel
theorem ne_least_now : ¬ (("least" : Str) = "now") := by decide +kernel
theorem ne_least_times : ¬ (("least" : Str) = "times") := by decide +kernel
theorem ne_time_of_now : ¬ (("time_of" : Str) = "now") := by decide +kernel
theorem ne_time_of_times : ¬ (("time_of" : Str) = "times") := by decide +kernel
theorem ne_all_of_now : ¬ (("all_of" : Str) = "now") := by decide +kernel
theorem ne_all_of_times : ¬ (("all_of" : Str) = "times") := by decide +kernel
theorem ne_check_waits_now : ¬ (("check_waits" : Str) = "now") := by decide +kernel
theorem ne_check_waits_times : ¬ (("check_waits" : Str) = "times") := by decide +kernel
theorem ne_enter_now : ¬ (("enter" : Str) = "now") := by decide +kernel
theorem ne_enter_times : ¬ (("enter" : Str) = "times") := by decide +kernel
theorem ne_leave_now : ¬ (("leave" : Str) = "now") := by decide +kernel
theorem ne_leave_times : ¬ (("leave" : Str) = "times") := by decide +kernel
theorem ne_pass_on_now : ¬ (("pass_on" : Str) = "now") := by decide +kernel
theorem ne_pass_on_times : ¬ (("pass_on" : Str) = "times") := by decide +kernel
set_option hygiene false in
local macro_rules | `(tactic| walk_at "lk") => `(tactic| first
  | assumption
  | (rw [lookup_look]; ((conv => lhs; simp only [look, reduceIte, ne_now_times, ne_times_now, ne___init___now, ne___init___times, ne_put_now, ne_put_times, ne_take_now, ne_take_times, ne_due_now, ne_due_times, ne_least_now, ne_least_times, ne_time_of_now, ne_time_of_times, ne_all_of_now, ne_all_of_times, ne_check_waits_now, ne_check_waits_times, ne_enter_now, ne_enter_times, ne_leave_now, ne_leave_times, ne_pass_on_now, ne_pass_on_times]) <;> exact rfl)))
set_option hygiene false in
local macro_rules | `(tactic| walk_at "put") => `(tactic| ((conv => lhs; simp only [putF, reduceIte, ne_now_times, ne_times_now, ne___init___now, ne___init___times, ne_put_now, ne_put_times, ne_take_now, ne_take_times, ne_due_now, ne_due_times, ne_least_now, ne_least_times, ne_time_of_now, ne_time_of_times, ne_all_of_now, ne_all_of_times, ne_check_waits_now, ne_check_waits_times, ne_enter_now, ne_enter_times, ne_leave_now, ne_leave_times, ne_pass_on_now, ne_pass_on_times]) <;> exact rfl))
set_option genSizeOf false in
set_option genInjectivity false in
structure Ad where
  f_Twice___init__ : Addr
  fd_Twice___init__ : FuncData
  f_NoBell___init__ : Addr
  fd_NoBell___init__ : FuncData
  f_Waits___init__ : Addr
  fd_Waits___init__ : FuncData
  dT_Waits___init__ : Addr
  tk_Waits___init___0 : Tok
  f_Waits_put : Addr
  fd_Waits_put : FuncData
  f_Waits_take : Addr
  fd_Waits_take : FuncData
  f_Waits_due : Addr
  fd_Waits_due : FuncData
  f_Waits_least : Addr
  fd_Waits_least : FuncData
  f_Waits_time_of : Addr
  fd_Waits_time_of : FuncData
  f_Waits_all_of : Addr
  fd_Waits_all_of : FuncData
  f_Waits_check_waits : Addr
  fd_Waits_check_waits : FuncData
  f_Row_enter : Addr
  fd_Row_enter : FuncData
  f_Row_leave : Addr
  fd_Row_leave : FuncData
  f_Row_pass_on : Addr
  fd_Row_pass_on : FuncData
  f__law_whole : Addr
  fd__law_whole : FuncData
  f__law_cell_at : Addr
  fd__law_cell_at : FuncData
  f__law_mixed : Addr
  fd__law_mixed : FuncData
  f__law_name : Addr
  fd__law_name : FuncData
  f__law_later : Addr
  fd__law_later : FuncData
  f__law_deed : Addr
  fd__law_deed : FuncData
  f__law_due : Addr
  fd__law_due : FuncData
  f__law_asked : Addr
  fd__law_asked : FuncData
  f__law_pairs_are : Addr
  fd__law_pairs_are : FuncData
  f__law_alike : Addr
  fd__law_alike : FuncData
  f_law : Addr
  fd_law : FuncData
  C_Waits : Addr
  C_Row : Addr
  C_NoBell : Addr
  C_Past : Addr
  C_Twice : Addr
  C_WakeError : Addr
structure Txt (K : PySem.W.Frag) (mg : Str → Option Value) (a : Ad) : Prop where
  F_Twice___init__ : FunD K "__init__" "Twice.__init__" s_Twice___init__ a.f_Twice___init__ (.none) a.fd_Twice___init__
  kp_Twice___init__ : PySem.W.keepIn K (.ref a.f_Twice___init__) = true
  F_NoBell___init__ : FunD K "__init__" "NoBell.__init__" s_NoBell___init__ a.f_NoBell___init__ (.none) a.fd_NoBell___init__
  kp_NoBell___init__ : PySem.W.keepIn K (.ref a.f_NoBell___init__) = true
  F_Waits___init__ : FunD K "__init__" "Waits.__init__" s_Waits___init__ a.f_Waits___init__ (.ref a.dT_Waits___init__) a.fd_Waits___init__
  kp_Waits___init__ : PySem.W.keepIn K (.ref a.f_Waits___init__) = true
  D_Waits___init__ : DefT K a.dT_Waits___init__ #[(.int 0 a.tk_Waits___init___0)]
  F_Waits_put : FunD K "put" "Waits.put" s_Waits_put a.f_Waits_put (.none) a.fd_Waits_put
  kp_Waits_put : PySem.W.keepIn K (.ref a.f_Waits_put) = true
  F_Waits_take : FunD K "take" "Waits.take" s_Waits_take a.f_Waits_take (.none) a.fd_Waits_take
  kp_Waits_take : PySem.W.keepIn K (.ref a.f_Waits_take) = true
  F_Waits_due : FunD K "due" "Waits.due" s_Waits_due a.f_Waits_due (.none) a.fd_Waits_due
  kp_Waits_due : PySem.W.keepIn K (.ref a.f_Waits_due) = true
  F_Waits_least : FunD K "least" "Waits.least" s_Waits_least a.f_Waits_least (.none) a.fd_Waits_least
  kp_Waits_least : PySem.W.keepIn K (.ref a.f_Waits_least) = true
  F_Waits_time_of : FunD K "time_of" "Waits.time_of" s_Waits_time_of a.f_Waits_time_of (.none) a.fd_Waits_time_of
  kp_Waits_time_of : PySem.W.keepIn K (.ref a.f_Waits_time_of) = true
  F_Waits_all_of : FunD K "all_of" "Waits.all_of" s_Waits_all_of a.f_Waits_all_of (.none) a.fd_Waits_all_of
  kp_Waits_all_of : PySem.W.keepIn K (.ref a.f_Waits_all_of) = true
  F_Waits_check_waits : FunD K "check_waits" "Waits.check_waits" s_Waits_check_waits a.f_Waits_check_waits (.none) a.fd_Waits_check_waits
  kp_Waits_check_waits : PySem.W.keepIn K (.ref a.f_Waits_check_waits) = true
  F_Row_enter : FunD K "enter" "Row.enter" s_Row_enter a.f_Row_enter (.none) a.fd_Row_enter
  kp_Row_enter : PySem.W.keepIn K (.ref a.f_Row_enter) = true
  F_Row_leave : FunD K "leave" "Row.leave" s_Row_leave a.f_Row_leave (.none) a.fd_Row_leave
  kp_Row_leave : PySem.W.keepIn K (.ref a.f_Row_leave) = true
  F_Row_pass_on : FunD K "pass_on" "Row.pass_on" s_Row_pass_on a.f_Row_pass_on (.none) a.fd_Row_pass_on
  kp_Row_pass_on : PySem.W.keepIn K (.ref a.f_Row_pass_on) = true
  F__law_whole : FunD K "_law_whole" "_law_whole" s__law_whole a.f__law_whole (.none) a.fd__law_whole
  kp__law_whole : PySem.W.keepIn K (.ref a.f__law_whole) = true
  mg__law_whole : mg "_law_whole" = some (.ref a.f__law_whole)
  F__law_cell_at : FunD K "_law_cell_at" "_law_cell_at" s__law_cell_at a.f__law_cell_at (.none) a.fd__law_cell_at
  kp__law_cell_at : PySem.W.keepIn K (.ref a.f__law_cell_at) = true
  mg__law_cell_at : mg "_law_cell_at" = some (.ref a.f__law_cell_at)
  F__law_mixed : FunD K "_law_mixed" "_law_mixed" s__law_mixed a.f__law_mixed (.none) a.fd__law_mixed
  kp__law_mixed : PySem.W.keepIn K (.ref a.f__law_mixed) = true
  mg__law_mixed : mg "_law_mixed" = some (.ref a.f__law_mixed)
  F__law_name : FunD K "_law_name" "_law_name" s__law_name a.f__law_name (.none) a.fd__law_name
  kp__law_name : PySem.W.keepIn K (.ref a.f__law_name) = true
  mg__law_name : mg "_law_name" = some (.ref a.f__law_name)
  F__law_later : FunD K "_law_later" "_law_later" s__law_later a.f__law_later (.none) a.fd__law_later
  kp__law_later : PySem.W.keepIn K (.ref a.f__law_later) = true
  mg__law_later : mg "_law_later" = some (.ref a.f__law_later)
  F__law_deed : FunD K "_law_deed" "_law_deed" s__law_deed a.f__law_deed (.none) a.fd__law_deed
  kp__law_deed : PySem.W.keepIn K (.ref a.f__law_deed) = true
  mg__law_deed : mg "_law_deed" = some (.ref a.f__law_deed)
  F__law_due : FunD K "_law_due" "_law_due" s__law_due a.f__law_due (.none) a.fd__law_due
  kp__law_due : PySem.W.keepIn K (.ref a.f__law_due) = true
  mg__law_due : mg "_law_due" = some (.ref a.f__law_due)
  F__law_asked : FunD K "_law_asked" "_law_asked" s__law_asked a.f__law_asked (.none) a.fd__law_asked
  kp__law_asked : PySem.W.keepIn K (.ref a.f__law_asked) = true
  mg__law_asked : mg "_law_asked" = some (.ref a.f__law_asked)
  F__law_pairs_are : FunD K "_law_pairs_are" "_law_pairs_are" s__law_pairs_are a.f__law_pairs_are (.none) a.fd__law_pairs_are
  kp__law_pairs_are : PySem.W.keepIn K (.ref a.f__law_pairs_are) = true
  mg__law_pairs_are : mg "_law_pairs_are" = some (.ref a.f__law_pairs_are)
  F__law_alike : FunD K "_law_alike" "_law_alike" s__law_alike a.f__law_alike (.none) a.fd__law_alike
  kp__law_alike : PySem.W.keepIn K (.ref a.f__law_alike) = true
  mg__law_alike : mg "_law_alike" = some (.ref a.f__law_alike)
  F_law : FunD K "law" "law" s_law a.f_law (.none) a.fd_law
  kp_law : PySem.W.keepIn K (.ref a.f_law) = true
  mg_law : mg "law" = some (.ref a.f_law)
  mg_Waits : mg "Waits" = some (.ref a.C_Waits)
  cl_Waits : Cls K a.C_Waits
  M_Waits : Mk K a.C_Waits a.f_Waits___init__
  m_Waits_put : Meth K a.C_Waits "put" a.f_Waits_put
  m_Waits_take : Meth K a.C_Waits "take" a.f_Waits_take
  m_Waits_due : Meth K a.C_Waits "due" a.f_Waits_due
  m_Waits_least : Meth K a.C_Waits "least" a.f_Waits_least
  m_Waits_time_of : Meth K a.C_Waits "time_of" a.f_Waits_time_of
  m_Waits_all_of : Meth K a.C_Waits "all_of" a.f_Waits_all_of
  m_Waits_check_waits : Meth K a.C_Waits "check_waits" a.f_Waits_check_waits
  ty_Waits : TyCls K a.C_Waits
  is_Waits_Waits : PySem.W.kitOne K (.ref a.C_Waits) (.ref a.C_Waits) = some true
  mg_Row : mg "Row" = some (.ref a.C_Row)
  cl_Row : Cls K a.C_Row
  na_Row_now : NoAttr K a.C_Row "now"
  na_Row_times : NoAttr K a.C_Row "times"
  M_Row : Mk K a.C_Row a.f_Waits___init__
  m_Row_enter : Meth K a.C_Row "enter" a.f_Row_enter
  m_Row_leave : Meth K a.C_Row "leave" a.f_Row_leave
  m_Row_pass_on : Meth K a.C_Row "pass_on" a.f_Row_pass_on
  m_Row_put : Meth K a.C_Row "put" a.f_Waits_put
  m_Row_take : Meth K a.C_Row "take" a.f_Waits_take
  m_Row_due : Meth K a.C_Row "due" a.f_Waits_due
  m_Row_least : Meth K a.C_Row "least" a.f_Waits_least
  m_Row_time_of : Meth K a.C_Row "time_of" a.f_Waits_time_of
  m_Row_all_of : Meth K a.C_Row "all_of" a.f_Waits_all_of
  m_Row_check_waits : Meth K a.C_Row "check_waits" a.f_Waits_check_waits
  ty_Row : TyCls K a.C_Row
  is_Row_Waits : PySem.W.kitOne K (.ref a.C_Row) (.ref a.C_Waits) = some true
  mg_NoBell : mg "NoBell" = some (.ref a.C_NoBell)
  mg_Past : mg "Past" = some (.ref a.C_Past)
  x_Past : ExcK K a.C_Past
  mg_Twice : mg "Twice" = some (.ref a.C_Twice)
  mg_WakeError : mg "WakeError" = some (.ref a.C_WakeError)
  x_WakeError : ExcK K a.C_WakeError
  te_NoBell : TyE K a.C_NoBell
  iv_NoBell : PySem.W.kitOne K (.ref a.C_NoBell) (.type "ValueError") = some true
  n_NoBell : ExN K a.C_NoBell a.C_WakeError a.f_NoBell___init__
  mr_NoBell_NoBell : PySem.W.mroIn K a.C_NoBell (.ref a.C_NoBell) = some true
  is_NoBell_NoBell : PySem.W.kitOne K (.ref a.C_NoBell) (.ref a.C_NoBell) = some true
  mr_NoBell_Past : PySem.W.mroIn K a.C_NoBell (.ref a.C_Past) = some false
  is_NoBell_Past : PySem.W.kitOne K (.ref a.C_NoBell) (.ref a.C_Past) = some false
  mr_NoBell_Twice : PySem.W.mroIn K a.C_NoBell (.ref a.C_Twice) = some false
  is_NoBell_Twice : PySem.W.kitOne K (.ref a.C_NoBell) (.ref a.C_Twice) = some false
  mr_NoBell_WakeError : PySem.W.mroIn K a.C_NoBell (.ref a.C_WakeError) = some true
  is_NoBell_WakeError : PySem.W.kitOne K (.ref a.C_NoBell) (.ref a.C_WakeError) = some true
  te_Past : TyE K a.C_Past
  iv_Past : PySem.W.kitOne K (.ref a.C_Past) (.type "ValueError") = some true
  mr_Past_NoBell : PySem.W.mroIn K a.C_Past (.ref a.C_NoBell) = some false
  is_Past_NoBell : PySem.W.kitOne K (.ref a.C_Past) (.ref a.C_NoBell) = some false
  mr_Past_Past : PySem.W.mroIn K a.C_Past (.ref a.C_Past) = some true
  is_Past_Past : PySem.W.kitOne K (.ref a.C_Past) (.ref a.C_Past) = some true
  mr_Past_Twice : PySem.W.mroIn K a.C_Past (.ref a.C_Twice) = some false
  is_Past_Twice : PySem.W.kitOne K (.ref a.C_Past) (.ref a.C_Twice) = some false
  mr_Past_WakeError : PySem.W.mroIn K a.C_Past (.ref a.C_WakeError) = some true
  is_Past_WakeError : PySem.W.kitOne K (.ref a.C_Past) (.ref a.C_WakeError) = some true
  te_Twice : TyE K a.C_Twice
  iv_Twice : PySem.W.kitOne K (.ref a.C_Twice) (.type "ValueError") = some true
  n_Twice : ExN K a.C_Twice a.C_WakeError a.f_Twice___init__
  mr_Twice_NoBell : PySem.W.mroIn K a.C_Twice (.ref a.C_NoBell) = some false
  is_Twice_NoBell : PySem.W.kitOne K (.ref a.C_Twice) (.ref a.C_NoBell) = some false
  mr_Twice_Past : PySem.W.mroIn K a.C_Twice (.ref a.C_Past) = some false
  is_Twice_Past : PySem.W.kitOne K (.ref a.C_Twice) (.ref a.C_Past) = some false
  mr_Twice_Twice : PySem.W.mroIn K a.C_Twice (.ref a.C_Twice) = some true
  is_Twice_Twice : PySem.W.kitOne K (.ref a.C_Twice) (.ref a.C_Twice) = some true
  mr_Twice_WakeError : PySem.W.mroIn K a.C_Twice (.ref a.C_WakeError) = some true
  is_Twice_WakeError : PySem.W.kitOne K (.ref a.C_Twice) (.ref a.C_WakeError) = some true
  IB_WakeError : InitB K a.C_WakeError
  no_bool : mg "bool" = none
  no_enumerate : mg "enumerate" = none
  no_int : mg "int" = none
  no_isinstance : mg "isinstance" = none
  no_len : mg "len" = none
  no_list : mg "list" = none
  no_max : mg "max" = none
  no_min : mg "min" = none
  no_sorted : mg "sorted" = none
  no_str : mg "str" = none
  no_tuple : mg "tuple" = none
theorem txt_mk {K : PySem.W.Frag} {h : Heap} {mg : Str → Option Value} {f_Twice___init__ f_NoBell___init__ f_Waits___init__ dT_Waits___init__ f_Waits_put f_Waits_take f_Waits_due f_Waits_least f_Waits_time_of f_Waits_all_of f_Waits_check_waits f_Row_enter f_Row_leave f_Row_pass_on f__law_whole f__law_cell_at f__law_mixed f__law_name f__law_later f__law_deed f__law_due f__law_asked f__law_pairs_are f__law_alike f_law C_Waits C_Row C_NoBell C_Past C_Twice C_WakeError : Addr} {tk_Waits___init___0 : Tok} {od_Twice___init__ an_Twice___init__ : Option Addr} {sl_Twice___init__ : Array (Option Value)} {oc_Twice___init__ kV_Twice___init__ dc_Twice___init__ pm_Twice___init__ cd_Twice___init__ ct_Twice___init__ : Value} {od_NoBell___init__ an_NoBell___init__ : Option Addr} {sl_NoBell___init__ : Array (Option Value)} {oc_NoBell___init__ kV_NoBell___init__ dc_NoBell___init__ pm_NoBell___init__ cd_NoBell___init__ ct_NoBell___init__ : Value} {od_Waits___init__ an_Waits___init__ : Option Addr} {sl_Waits___init__ : Array (Option Value)} {oc_Waits___init__ kV_Waits___init__ dc_Waits___init__ pm_Waits___init__ cd_Waits___init__ ct_Waits___init__ : Value} {dn_Waits___init__ : Nat} {dd_Waits___init__ : Option Addr} {ds_Waits___init__ : Array (Option Value)} {dc2_Waits___init__ : Value} {od_Waits_put an_Waits_put : Option Addr} {sl_Waits_put : Array (Option Value)} {oc_Waits_put kV_Waits_put dc_Waits_put pm_Waits_put cd_Waits_put ct_Waits_put : Value} {od_Waits_take an_Waits_take : Option Addr} {sl_Waits_take : Array (Option Value)} {oc_Waits_take kV_Waits_take dc_Waits_take pm_Waits_take cd_Waits_take ct_Waits_take : Value} {od_Waits_due an_Waits_due : Option Addr} {sl_Waits_due : Array (Option Value)} {oc_Waits_due kV_Waits_due dc_Waits_due pm_Waits_due cd_Waits_due ct_Waits_due : Value} {od_Waits_least an_Waits_least : Option Addr} {sl_Waits_least : Array (Option Value)} {oc_Waits_least kV_Waits_least dc_Waits_least pm_Waits_least cd_Waits_least ct_Waits_least : Value} {od_Waits_time_of an_Waits_time_of : Option Addr} {sl_Waits_time_of : Array (Option Value)} {oc_Waits_time_of kV_Waits_time_of dc_Waits_time_of pm_Waits_time_of cd_Waits_time_of ct_Waits_time_of : Value} {od_Waits_all_of an_Waits_all_of : Option Addr} {sl_Waits_all_of : Array (Option Value)} {oc_Waits_all_of kV_Waits_all_of dc_Waits_all_of pm_Waits_all_of cd_Waits_all_of ct_Waits_all_of : Value} {od_Waits_check_waits an_Waits_check_waits : Option Addr} {sl_Waits_check_waits : Array (Option Value)} {oc_Waits_check_waits kV_Waits_check_waits dc_Waits_check_waits pm_Waits_check_waits cd_Waits_check_waits ct_Waits_check_waits : Value} {od_Row_enter an_Row_enter : Option Addr} {sl_Row_enter : Array (Option Value)} {oc_Row_enter kV_Row_enter dc_Row_enter pm_Row_enter cd_Row_enter ct_Row_enter : Value} {od_Row_leave an_Row_leave : Option Addr} {sl_Row_leave : Array (Option Value)} {oc_Row_leave kV_Row_leave dc_Row_leave pm_Row_leave cd_Row_leave ct_Row_leave : Value} {od_Row_pass_on an_Row_pass_on : Option Addr} {sl_Row_pass_on : Array (Option Value)} {oc_Row_pass_on kV_Row_pass_on dc_Row_pass_on pm_Row_pass_on cd_Row_pass_on ct_Row_pass_on : Value} {od__law_whole an__law_whole : Option Addr} {sl__law_whole : Array (Option Value)} {oc__law_whole kV__law_whole dc__law_whole pm__law_whole cd__law_whole ct__law_whole : Value} {od__law_cell_at an__law_cell_at : Option Addr} {sl__law_cell_at : Array (Option Value)} {oc__law_cell_at kV__law_cell_at dc__law_cell_at pm__law_cell_at cd__law_cell_at ct__law_cell_at : Value} {od__law_mixed an__law_mixed : Option Addr} {sl__law_mixed : Array (Option Value)} {oc__law_mixed kV__law_mixed dc__law_mixed pm__law_mixed cd__law_mixed ct__law_mixed : Value} {od__law_name an__law_name : Option Addr} {sl__law_name : Array (Option Value)} {oc__law_name kV__law_name dc__law_name pm__law_name cd__law_name ct__law_name : Value} {od__law_later an__law_later : Option Addr} {sl__law_later : Array (Option Value)} {oc__law_later kV__law_later dc__law_later pm__law_later cd__law_later ct__law_later : Value} {od__law_deed an__law_deed : Option Addr} {sl__law_deed : Array (Option Value)} {oc__law_deed kV__law_deed dc__law_deed pm__law_deed cd__law_deed ct__law_deed : Value} {od__law_due an__law_due : Option Addr} {sl__law_due : Array (Option Value)} {oc__law_due kV__law_due dc__law_due pm__law_due cd__law_due ct__law_due : Value} {od__law_asked an__law_asked : Option Addr} {sl__law_asked : Array (Option Value)} {oc__law_asked kV__law_asked dc__law_asked pm__law_asked cd__law_asked ct__law_asked : Value} {od__law_pairs_are an__law_pairs_are : Option Addr} {sl__law_pairs_are : Array (Option Value)} {oc__law_pairs_are kV__law_pairs_are dc__law_pairs_are pm__law_pairs_are cd__law_pairs_are ct__law_pairs_are : Value} {od__law_alike an__law_alike : Option Addr} {sl__law_alike : Array (Option Value)} {oc__law_alike kV__law_alike dc__law_alike pm__law_alike cd__law_alike ct__law_alike : Value} {od_law an_law : Option Addr} {sl_law : Array (Option Value)} {oc_law kV_law dc_law pm_law cd_law ct_law : Value} {zn_NoBell zq_NoBell : Str} {zN_NoBell : Addr} {zb_NoBell zu_NoBell : List Value} {zs_NoBell : List Str} {za_NoBell : Bool} {zc_NoBell : Option Bool} {zd_NoBell : Option Addr} {z0_NoBell z1_NoBell z2_NoBell z3_NoBell z5_NoBell : Option Value} {zn_Twice zq_Twice : Str} {zN_Twice : Addr} {zb_Twice zu_Twice : List Value} {zs_Twice : List Str} {za_Twice : Bool} {zc_Twice : Option Bool} {zd_Twice : Option Addr} {z0_Twice z1_Twice z2_Twice z3_Twice z5_Twice : Option Value} (X : K.In h) (G : h.Ns mainGlobals mg)
    (aC_Waits : PySem.W.nsIn K mainGlobals "Waits" = some (some (.ref C_Waits)))
    (aC_Row : PySem.W.nsIn K mainGlobals "Row" = some (some (.ref C_Row)))
    (aC_NoBell : PySem.W.nsIn K mainGlobals "NoBell" = some (some (.ref C_NoBell)))
    (aC_Past : PySem.W.nsIn K mainGlobals "Past" = some (some (.ref C_Past)))
    (aC_Twice : PySem.W.nsIn K mainGlobals "Twice" = some (some (.ref C_Twice)))
    (aC_WakeError : PySem.W.nsIn K mainGlobals "WakeError" = some (some (.ref C_WakeError)))
    (hgg : PySem.W.specialIn K (.builtin "object.__class__") "__get__" = some (some (.builtin "getset_descriptor.__get__")))
    (htt : PySem.W.takesIn K (.builtin "object.__class__") = some true)
    (a_Twice___init__ : PySem.W.findIn K (.ref C_Twice) "__init__" = some (some (.ref f_Twice___init__)))
    (l_Twice___init__ : K.lookup f_Twice___init__ = some ⟨oc_Twice___init__, od_Twice___init__, .func (PySem.W.fnOf "__init__" "Twice.__init__" (defArgs s_Twice___init__) (defBody s_Twice___init__) (defScope s_Twice___init__) (.none) kV_Twice___init__ dc_Twice___init__ pm_Twice___init__ an_Twice___init__ cd_Twice___init__ ct_Twice___init__), sl_Twice___init__⟩)
    (c_Twice___init__ : PySem.W.codeIn K cd_Twice___init__ "Twice.__init__" = true)
    (k_Twice___init__ : PySem.W.keepIn K (.ref f_Twice___init__) = true)
    (i_Twice___init__ : PySem.W.isFn K (.ref f_Twice___init__) = true)
    (a_NoBell___init__ : PySem.W.findIn K (.ref C_NoBell) "__init__" = some (some (.ref f_NoBell___init__)))
    (l_NoBell___init__ : K.lookup f_NoBell___init__ = some ⟨oc_NoBell___init__, od_NoBell___init__, .func (PySem.W.fnOf "__init__" "NoBell.__init__" (defArgs s_NoBell___init__) (defBody s_NoBell___init__) (defScope s_NoBell___init__) (.none) kV_NoBell___init__ dc_NoBell___init__ pm_NoBell___init__ an_NoBell___init__ cd_NoBell___init__ ct_NoBell___init__), sl_NoBell___init__⟩)
    (c_NoBell___init__ : PySem.W.codeIn K cd_NoBell___init__ "NoBell.__init__" = true)
    (k_NoBell___init__ : PySem.W.keepIn K (.ref f_NoBell___init__) = true)
    (i_NoBell___init__ : PySem.W.isFn K (.ref f_NoBell___init__) = true)
    (a_Waits___init__ : PySem.W.findIn K (.ref C_Waits) "__init__" = some (some (.ref f_Waits___init__)))
    (l_Waits___init__ : K.lookup f_Waits___init__ = some ⟨oc_Waits___init__, od_Waits___init__, .func (PySem.W.fnOf "__init__" "Waits.__init__" (defArgs s_Waits___init__) (defBody s_Waits___init__) (defScope s_Waits___init__) (.ref dT_Waits___init__) kV_Waits___init__ dc_Waits___init__ pm_Waits___init__ an_Waits___init__ cd_Waits___init__ ct_Waits___init__), sl_Waits___init__⟩)
    (c_Waits___init__ : PySem.W.codeIn K cd_Waits___init__ "Waits.__init__" = true)
    (k_Waits___init__ : PySem.W.keepIn K (.ref f_Waits___init__) = true)
    (i_Waits___init__ : PySem.W.isFn K (.ref f_Waits___init__) = true)
    (t_Waits___init__ : K.lookup dT_Waits___init__ = some ⟨dc2_Waits___init__, dd_Waits___init__, .seq #[(.int 0 tk_Waits___init___0)] dn_Waits___init__, ds_Waits___init__⟩)
    (a_Waits_put : PySem.W.findIn K (.ref C_Waits) "put" = some (some (.ref f_Waits_put)))
    (l_Waits_put : K.lookup f_Waits_put = some ⟨oc_Waits_put, od_Waits_put, .func (PySem.W.fnOf "put" "Waits.put" (defArgs s_Waits_put) (defBody s_Waits_put) (defScope s_Waits_put) (.none) kV_Waits_put dc_Waits_put pm_Waits_put an_Waits_put cd_Waits_put ct_Waits_put), sl_Waits_put⟩)
    (c_Waits_put : PySem.W.codeIn K cd_Waits_put "Waits.put" = true)
    (k_Waits_put : PySem.W.keepIn K (.ref f_Waits_put) = true)
    (i_Waits_put : PySem.W.isFn K (.ref f_Waits_put) = true)
    (a_Waits_take : PySem.W.findIn K (.ref C_Waits) "take" = some (some (.ref f_Waits_take)))
    (l_Waits_take : K.lookup f_Waits_take = some ⟨oc_Waits_take, od_Waits_take, .func (PySem.W.fnOf "take" "Waits.take" (defArgs s_Waits_take) (defBody s_Waits_take) (defScope s_Waits_take) (.none) kV_Waits_take dc_Waits_take pm_Waits_take an_Waits_take cd_Waits_take ct_Waits_take), sl_Waits_take⟩)
    (c_Waits_take : PySem.W.codeIn K cd_Waits_take "Waits.take" = true)
    (k_Waits_take : PySem.W.keepIn K (.ref f_Waits_take) = true)
    (i_Waits_take : PySem.W.isFn K (.ref f_Waits_take) = true)
    (a_Waits_due : PySem.W.findIn K (.ref C_Waits) "due" = some (some (.ref f_Waits_due)))
    (l_Waits_due : K.lookup f_Waits_due = some ⟨oc_Waits_due, od_Waits_due, .func (PySem.W.fnOf "due" "Waits.due" (defArgs s_Waits_due) (defBody s_Waits_due) (defScope s_Waits_due) (.none) kV_Waits_due dc_Waits_due pm_Waits_due an_Waits_due cd_Waits_due ct_Waits_due), sl_Waits_due⟩)
    (c_Waits_due : PySem.W.codeIn K cd_Waits_due "Waits.due" = true)
    (k_Waits_due : PySem.W.keepIn K (.ref f_Waits_due) = true)
    (i_Waits_due : PySem.W.isFn K (.ref f_Waits_due) = true)
    (a_Waits_least : PySem.W.findIn K (.ref C_Waits) "least" = some (some (.ref f_Waits_least)))
    (l_Waits_least : K.lookup f_Waits_least = some ⟨oc_Waits_least, od_Waits_least, .func (PySem.W.fnOf "least" "Waits.least" (defArgs s_Waits_least) (defBody s_Waits_least) (defScope s_Waits_least) (.none) kV_Waits_least dc_Waits_least pm_Waits_least an_Waits_least cd_Waits_least ct_Waits_least), sl_Waits_least⟩)
    (c_Waits_least : PySem.W.codeIn K cd_Waits_least "Waits.least" = true)
    (k_Waits_least : PySem.W.keepIn K (.ref f_Waits_least) = true)
    (i_Waits_least : PySem.W.isFn K (.ref f_Waits_least) = true)
    (a_Waits_time_of : PySem.W.findIn K (.ref C_Waits) "time_of" = some (some (.ref f_Waits_time_of)))
    (l_Waits_time_of : K.lookup f_Waits_time_of = some ⟨oc_Waits_time_of, od_Waits_time_of, .func (PySem.W.fnOf "time_of" "Waits.time_of" (defArgs s_Waits_time_of) (defBody s_Waits_time_of) (defScope s_Waits_time_of) (.none) kV_Waits_time_of dc_Waits_time_of pm_Waits_time_of an_Waits_time_of cd_Waits_time_of ct_Waits_time_of), sl_Waits_time_of⟩)
    (c_Waits_time_of : PySem.W.codeIn K cd_Waits_time_of "Waits.time_of" = true)
    (k_Waits_time_of : PySem.W.keepIn K (.ref f_Waits_time_of) = true)
    (i_Waits_time_of : PySem.W.isFn K (.ref f_Waits_time_of) = true)
    (a_Waits_all_of : PySem.W.findIn K (.ref C_Waits) "all_of" = some (some (.ref f_Waits_all_of)))
    (l_Waits_all_of : K.lookup f_Waits_all_of = some ⟨oc_Waits_all_of, od_Waits_all_of, .func (PySem.W.fnOf "all_of" "Waits.all_of" (defArgs s_Waits_all_of) (defBody s_Waits_all_of) (defScope s_Waits_all_of) (.none) kV_Waits_all_of dc_Waits_all_of pm_Waits_all_of an_Waits_all_of cd_Waits_all_of ct_Waits_all_of), sl_Waits_all_of⟩)
    (c_Waits_all_of : PySem.W.codeIn K cd_Waits_all_of "Waits.all_of" = true)
    (k_Waits_all_of : PySem.W.keepIn K (.ref f_Waits_all_of) = true)
    (i_Waits_all_of : PySem.W.isFn K (.ref f_Waits_all_of) = true)
    (a_Waits_check_waits : PySem.W.findIn K (.ref C_Waits) "check_waits" = some (some (.ref f_Waits_check_waits)))
    (l_Waits_check_waits : K.lookup f_Waits_check_waits = some ⟨oc_Waits_check_waits, od_Waits_check_waits, .func (PySem.W.fnOf "check_waits" "Waits.check_waits" (defArgs s_Waits_check_waits) (defBody s_Waits_check_waits) (defScope s_Waits_check_waits) (.none) kV_Waits_check_waits dc_Waits_check_waits pm_Waits_check_waits an_Waits_check_waits cd_Waits_check_waits ct_Waits_check_waits), sl_Waits_check_waits⟩)
    (c_Waits_check_waits : PySem.W.codeIn K cd_Waits_check_waits "Waits.check_waits" = true)
    (k_Waits_check_waits : PySem.W.keepIn K (.ref f_Waits_check_waits) = true)
    (i_Waits_check_waits : PySem.W.isFn K (.ref f_Waits_check_waits) = true)
    (a_Row_enter : PySem.W.findIn K (.ref C_Row) "enter" = some (some (.ref f_Row_enter)))
    (l_Row_enter : K.lookup f_Row_enter = some ⟨oc_Row_enter, od_Row_enter, .func (PySem.W.fnOf "enter" "Row.enter" (defArgs s_Row_enter) (defBody s_Row_enter) (defScope s_Row_enter) (.none) kV_Row_enter dc_Row_enter pm_Row_enter an_Row_enter cd_Row_enter ct_Row_enter), sl_Row_enter⟩)
    (c_Row_enter : PySem.W.codeIn K cd_Row_enter "Row.enter" = true)
    (k_Row_enter : PySem.W.keepIn K (.ref f_Row_enter) = true)
    (i_Row_enter : PySem.W.isFn K (.ref f_Row_enter) = true)
    (a_Row_leave : PySem.W.findIn K (.ref C_Row) "leave" = some (some (.ref f_Row_leave)))
    (l_Row_leave : K.lookup f_Row_leave = some ⟨oc_Row_leave, od_Row_leave, .func (PySem.W.fnOf "leave" "Row.leave" (defArgs s_Row_leave) (defBody s_Row_leave) (defScope s_Row_leave) (.none) kV_Row_leave dc_Row_leave pm_Row_leave an_Row_leave cd_Row_leave ct_Row_leave), sl_Row_leave⟩)
    (c_Row_leave : PySem.W.codeIn K cd_Row_leave "Row.leave" = true)
    (k_Row_leave : PySem.W.keepIn K (.ref f_Row_leave) = true)
    (i_Row_leave : PySem.W.isFn K (.ref f_Row_leave) = true)
    (a_Row_pass_on : PySem.W.findIn K (.ref C_Row) "pass_on" = some (some (.ref f_Row_pass_on)))
    (l_Row_pass_on : K.lookup f_Row_pass_on = some ⟨oc_Row_pass_on, od_Row_pass_on, .func (PySem.W.fnOf "pass_on" "Row.pass_on" (defArgs s_Row_pass_on) (defBody s_Row_pass_on) (defScope s_Row_pass_on) (.none) kV_Row_pass_on dc_Row_pass_on pm_Row_pass_on an_Row_pass_on cd_Row_pass_on ct_Row_pass_on), sl_Row_pass_on⟩)
    (c_Row_pass_on : PySem.W.codeIn K cd_Row_pass_on "Row.pass_on" = true)
    (k_Row_pass_on : PySem.W.keepIn K (.ref f_Row_pass_on) = true)
    (i_Row_pass_on : PySem.W.isFn K (.ref f_Row_pass_on) = true)
    (a__law_whole : PySem.W.nsIn K mainGlobals "_law_whole" = some (some (.ref f__law_whole)))
    (l__law_whole : K.lookup f__law_whole = some ⟨oc__law_whole, od__law_whole, .func (PySem.W.fnOf "_law_whole" "_law_whole" (defArgs s__law_whole) (defBody s__law_whole) (defScope s__law_whole) (.none) kV__law_whole dc__law_whole pm__law_whole an__law_whole cd__law_whole ct__law_whole), sl__law_whole⟩)
    (c__law_whole : PySem.W.codeIn K cd__law_whole "_law_whole" = true)
    (k__law_whole : PySem.W.keepIn K (.ref f__law_whole) = true)
    (a__law_cell_at : PySem.W.nsIn K mainGlobals "_law_cell_at" = some (some (.ref f__law_cell_at)))
    (l__law_cell_at : K.lookup f__law_cell_at = some ⟨oc__law_cell_at, od__law_cell_at, .func (PySem.W.fnOf "_law_cell_at" "_law_cell_at" (defArgs s__law_cell_at) (defBody s__law_cell_at) (defScope s__law_cell_at) (.none) kV__law_cell_at dc__law_cell_at pm__law_cell_at an__law_cell_at cd__law_cell_at ct__law_cell_at), sl__law_cell_at⟩)
    (c__law_cell_at : PySem.W.codeIn K cd__law_cell_at "_law_cell_at" = true)
    (k__law_cell_at : PySem.W.keepIn K (.ref f__law_cell_at) = true)
    (a__law_mixed : PySem.W.nsIn K mainGlobals "_law_mixed" = some (some (.ref f__law_mixed)))
    (l__law_mixed : K.lookup f__law_mixed = some ⟨oc__law_mixed, od__law_mixed, .func (PySem.W.fnOf "_law_mixed" "_law_mixed" (defArgs s__law_mixed) (defBody s__law_mixed) (defScope s__law_mixed) (.none) kV__law_mixed dc__law_mixed pm__law_mixed an__law_mixed cd__law_mixed ct__law_mixed), sl__law_mixed⟩)
    (c__law_mixed : PySem.W.codeIn K cd__law_mixed "_law_mixed" = true)
    (k__law_mixed : PySem.W.keepIn K (.ref f__law_mixed) = true)
    (a__law_name : PySem.W.nsIn K mainGlobals "_law_name" = some (some (.ref f__law_name)))
    (l__law_name : K.lookup f__law_name = some ⟨oc__law_name, od__law_name, .func (PySem.W.fnOf "_law_name" "_law_name" (defArgs s__law_name) (defBody s__law_name) (defScope s__law_name) (.none) kV__law_name dc__law_name pm__law_name an__law_name cd__law_name ct__law_name), sl__law_name⟩)
    (c__law_name : PySem.W.codeIn K cd__law_name "_law_name" = true)
    (k__law_name : PySem.W.keepIn K (.ref f__law_name) = true)
    (a__law_later : PySem.W.nsIn K mainGlobals "_law_later" = some (some (.ref f__law_later)))
    (l__law_later : K.lookup f__law_later = some ⟨oc__law_later, od__law_later, .func (PySem.W.fnOf "_law_later" "_law_later" (defArgs s__law_later) (defBody s__law_later) (defScope s__law_later) (.none) kV__law_later dc__law_later pm__law_later an__law_later cd__law_later ct__law_later), sl__law_later⟩)
    (c__law_later : PySem.W.codeIn K cd__law_later "_law_later" = true)
    (k__law_later : PySem.W.keepIn K (.ref f__law_later) = true)
    (a__law_deed : PySem.W.nsIn K mainGlobals "_law_deed" = some (some (.ref f__law_deed)))
    (l__law_deed : K.lookup f__law_deed = some ⟨oc__law_deed, od__law_deed, .func (PySem.W.fnOf "_law_deed" "_law_deed" (defArgs s__law_deed) (defBody s__law_deed) (defScope s__law_deed) (.none) kV__law_deed dc__law_deed pm__law_deed an__law_deed cd__law_deed ct__law_deed), sl__law_deed⟩)
    (c__law_deed : PySem.W.codeIn K cd__law_deed "_law_deed" = true)
    (k__law_deed : PySem.W.keepIn K (.ref f__law_deed) = true)
    (a__law_due : PySem.W.nsIn K mainGlobals "_law_due" = some (some (.ref f__law_due)))
    (l__law_due : K.lookup f__law_due = some ⟨oc__law_due, od__law_due, .func (PySem.W.fnOf "_law_due" "_law_due" (defArgs s__law_due) (defBody s__law_due) (defScope s__law_due) (.none) kV__law_due dc__law_due pm__law_due an__law_due cd__law_due ct__law_due), sl__law_due⟩)
    (c__law_due : PySem.W.codeIn K cd__law_due "_law_due" = true)
    (k__law_due : PySem.W.keepIn K (.ref f__law_due) = true)
    (a__law_asked : PySem.W.nsIn K mainGlobals "_law_asked" = some (some (.ref f__law_asked)))
    (l__law_asked : K.lookup f__law_asked = some ⟨oc__law_asked, od__law_asked, .func (PySem.W.fnOf "_law_asked" "_law_asked" (defArgs s__law_asked) (defBody s__law_asked) (defScope s__law_asked) (.none) kV__law_asked dc__law_asked pm__law_asked an__law_asked cd__law_asked ct__law_asked), sl__law_asked⟩)
    (c__law_asked : PySem.W.codeIn K cd__law_asked "_law_asked" = true)
    (k__law_asked : PySem.W.keepIn K (.ref f__law_asked) = true)
    (a__law_pairs_are : PySem.W.nsIn K mainGlobals "_law_pairs_are" = some (some (.ref f__law_pairs_are)))
    (l__law_pairs_are : K.lookup f__law_pairs_are = some ⟨oc__law_pairs_are, od__law_pairs_are, .func (PySem.W.fnOf "_law_pairs_are" "_law_pairs_are" (defArgs s__law_pairs_are) (defBody s__law_pairs_are) (defScope s__law_pairs_are) (.none) kV__law_pairs_are dc__law_pairs_are pm__law_pairs_are an__law_pairs_are cd__law_pairs_are ct__law_pairs_are), sl__law_pairs_are⟩)
    (c__law_pairs_are : PySem.W.codeIn K cd__law_pairs_are "_law_pairs_are" = true)
    (k__law_pairs_are : PySem.W.keepIn K (.ref f__law_pairs_are) = true)
    (a__law_alike : PySem.W.nsIn K mainGlobals "_law_alike" = some (some (.ref f__law_alike)))
    (l__law_alike : K.lookup f__law_alike = some ⟨oc__law_alike, od__law_alike, .func (PySem.W.fnOf "_law_alike" "_law_alike" (defArgs s__law_alike) (defBody s__law_alike) (defScope s__law_alike) (.none) kV__law_alike dc__law_alike pm__law_alike an__law_alike cd__law_alike ct__law_alike), sl__law_alike⟩)
    (c__law_alike : PySem.W.codeIn K cd__law_alike "_law_alike" = true)
    (k__law_alike : PySem.W.keepIn K (.ref f__law_alike) = true)
    (a_law : PySem.W.nsIn K mainGlobals "law" = some (some (.ref f_law)))
    (l_law : K.lookup f_law = some ⟨oc_law, od_law, .func (PySem.W.fnOf "law" "law" (defArgs s_law) (defBody s_law) (defScope s_law) (.none) kV_law dc_law pm_law an_law cd_law ct_law), sl_law⟩)
    (c_law : PySem.W.codeIn K cd_law "law" = true)
    (k_law : PySem.W.keepIn K (.ref f_law) = true)
    (pg_Waits : PySem.W.plainGet K C_Waits Str.empty = true)
    (hd_Waits : PySem.W.hasDictIn K C_Waits = true)
    (po_Waits : PySem.W.plainOver K C_Waits = true)
    (sa_Waits : PySem.W.findIn K (.ref C_Waits) "__setattr__" = some (some (.builtin "object.__setattr__")))
    (mk_Waits : PySem.W.makesIn K C_Waits = true)
    (kc_Waits : PySem.W.keepIn K (.ref C_Waits) = true)
    (t1_Waits : PySem.W.findIn K (.ref C_Waits) "__class__" = some (some (.builtin "object.__class__")))
    (t2_Waits : PySem.W.mroIn K C_Waits (.type "object") = some true)
    (t3_Waits : PySem.W.typeIn K (.ref C_Waits) = some (.type "type"))
    (is_Waits_Waits : PySem.W.mroIn K C_Waits (.ref C_Waits) = some true)
    (pg_Row : PySem.W.plainGet K C_Row Str.empty = true)
    (hd_Row : PySem.W.hasDictIn K C_Row = true)
    (po_Row : PySem.W.plainOver K C_Row = true)
    (sa_Row : PySem.W.findIn K (.ref C_Row) "__setattr__" = some (some (.builtin "object.__setattr__")))
    (na_Row_now : PySem.W.findIn K (.ref C_Row) "now" = some none)
    (na_Row_times : PySem.W.findIn K (.ref C_Row) "times" = some none)
    (mk_Row : PySem.W.makesIn K C_Row = true)
    (kc_Row : PySem.W.keepIn K (.ref C_Row) = true)
    (in_Row : PySem.W.findIn K (.ref C_Row) "__init__" = some (some (.ref f_Waits___init__)))
    (im_Row_put : PySem.W.findIn K (.ref C_Row) "put" = some (some (.ref f_Waits_put)))
    (im_Row_take : PySem.W.findIn K (.ref C_Row) "take" = some (some (.ref f_Waits_take)))
    (im_Row_due : PySem.W.findIn K (.ref C_Row) "due" = some (some (.ref f_Waits_due)))
    (im_Row_least : PySem.W.findIn K (.ref C_Row) "least" = some (some (.ref f_Waits_least)))
    (im_Row_time_of : PySem.W.findIn K (.ref C_Row) "time_of" = some (some (.ref f_Waits_time_of)))
    (im_Row_all_of : PySem.W.findIn K (.ref C_Row) "all_of" = some (some (.ref f_Waits_all_of)))
    (im_Row_check_waits : PySem.W.findIn K (.ref C_Row) "check_waits" = some (some (.ref f_Waits_check_waits)))
    (t1_Row : PySem.W.findIn K (.ref C_Row) "__class__" = some (some (.builtin "object.__class__")))
    (t2_Row : PySem.W.mroIn K C_Row (.type "object") = some true)
    (t3_Row : PySem.W.typeIn K (.ref C_Row) = some (.type "type"))
    (is_Row_Waits : PySem.W.mroIn K C_Row (.ref C_Waits) = some true)
    (nl_NoBell : K.lookup C_NoBell = some (excClassObj zn_NoBell zq_NoBell C_NoBell zN_NoBell zb_NoBell (.ref C_WakeError :: veB) true zs_NoBell zu_NoBell za_NoBell zc_NoBell zd_NoBell z0_NoBell z1_NoBell z2_NoBell z3_NoBell z5_NoBell "ValueError.__new__"))
    (t2_NoBell : PySem.W.mroIn K C_NoBell (.type "object") = some true)
    (t3_NoBell : PySem.W.typeIn K (.ref C_NoBell) = some (.type "type"))
    (x_Past : PySem.W.excIn K C_Past [.type "ValueError", .type "Exception", .type "BaseException", .type "object"] "ValueError.__new__" = true)
    (t2_Past : PySem.W.mroIn K C_Past (.type "object") = some true)
    (t3_Past : PySem.W.typeIn K (.ref C_Past) = some (.type "type"))
    (nl_Twice : K.lookup C_Twice = some (excClassObj zn_Twice zq_Twice C_Twice zN_Twice zb_Twice (.ref C_WakeError :: veB) true zs_Twice zu_Twice za_Twice zc_Twice zd_Twice z0_Twice z1_Twice z2_Twice z3_Twice z5_Twice "ValueError.__new__"))
    (t2_Twice : PySem.W.mroIn K C_Twice (.type "object") = some true)
    (t3_Twice : PySem.W.typeIn K (.ref C_Twice) = some (.type "type"))
    (x_WakeError : PySem.W.excIn K C_WakeError [.type "ValueError", .type "Exception", .type "BaseException", .type "object"] "ValueError.__new__" = true)
    (t2_WakeError : PySem.W.mroIn K C_WakeError (.type "object") = some true)
    (t3_WakeError : PySem.W.typeIn K (.ref C_WakeError) = some (.type "type"))
    (ga_NoBell : PySem.W.findIn K (.ref C_NoBell) "__getattribute__" = some (some (.builtin "BaseException.__getattribute__")))
    (gn_NoBell : PySem.W.findIn K (.ref C_NoBell) "__getattr__" = some none)
    (mb_NoBell : PySem.W.mroIn K C_NoBell (.type "BaseException") = some true)
    (hd_NoBell : PySem.W.hasDictIn K C_NoBell = true)
    (t1_NoBell : PySem.W.findIn K (.ref C_NoBell) "__class__" = some (some (.builtin "object.__class__")))
    (vv_NoBell : PySem.W.mroIn K C_NoBell (.type "ValueError") = some true)
    (sa_NoBell : PySem.W.findIn K (.ref C_NoBell) "__setattr__" = some (some (.builtin "object.__setattr__")))
    (tn_NoBell : PySem.W.takerIn K C_NoBell "name" = some none)
    (fn_NoBell : PySem.W.findIn K (.ref C_NoBell) "name" = some none)
    (is_NoBell_NoBell : PySem.W.mroIn K C_NoBell (.ref C_NoBell) = some true)
    (is_NoBell_Past : PySem.W.mroIn K C_NoBell (.ref C_Past) = some false)
    (nq_NoBell_Past : (C_NoBell == C_Past) = false)
    (is_NoBell_Twice : PySem.W.mroIn K C_NoBell (.ref C_Twice) = some false)
    (nq_NoBell_Twice : (C_NoBell == C_Twice) = false)
    (is_NoBell_WakeError : PySem.W.mroIn K C_NoBell (.ref C_WakeError) = some true)
    (ga_Past : PySem.W.findIn K (.ref C_Past) "__getattribute__" = some (some (.builtin "BaseException.__getattribute__")))
    (gn_Past : PySem.W.findIn K (.ref C_Past) "__getattr__" = some none)
    (mb_Past : PySem.W.mroIn K C_Past (.type "BaseException") = some true)
    (hd_Past : PySem.W.hasDictIn K C_Past = true)
    (t1_Past : PySem.W.findIn K (.ref C_Past) "__class__" = some (some (.builtin "object.__class__")))
    (vv_Past : PySem.W.mroIn K C_Past (.type "ValueError") = some true)
    (is_Past_NoBell : PySem.W.mroIn K C_Past (.ref C_NoBell) = some false)
    (nq_Past_NoBell : (C_Past == C_NoBell) = false)
    (is_Past_Past : PySem.W.mroIn K C_Past (.ref C_Past) = some true)
    (is_Past_Twice : PySem.W.mroIn K C_Past (.ref C_Twice) = some false)
    (nq_Past_Twice : (C_Past == C_Twice) = false)
    (is_Past_WakeError : PySem.W.mroIn K C_Past (.ref C_WakeError) = some true)
    (ga_Twice : PySem.W.findIn K (.ref C_Twice) "__getattribute__" = some (some (.builtin "BaseException.__getattribute__")))
    (gn_Twice : PySem.W.findIn K (.ref C_Twice) "__getattr__" = some none)
    (mb_Twice : PySem.W.mroIn K C_Twice (.type "BaseException") = some true)
    (hd_Twice : PySem.W.hasDictIn K C_Twice = true)
    (t1_Twice : PySem.W.findIn K (.ref C_Twice) "__class__" = some (some (.builtin "object.__class__")))
    (vv_Twice : PySem.W.mroIn K C_Twice (.type "ValueError") = some true)
    (sa_Twice : PySem.W.findIn K (.ref C_Twice) "__setattr__" = some (some (.builtin "object.__setattr__")))
    (tn_Twice : PySem.W.takerIn K C_Twice "name" = some none)
    (fn_Twice : PySem.W.findIn K (.ref C_Twice) "name" = some none)
    (is_Twice_NoBell : PySem.W.mroIn K C_Twice (.ref C_NoBell) = some false)
    (nq_Twice_NoBell : (C_Twice == C_NoBell) = false)
    (is_Twice_Past : PySem.W.mroIn K C_Twice (.ref C_Past) = some false)
    (nq_Twice_Past : (C_Twice == C_Past) = false)
    (is_Twice_Twice : PySem.W.mroIn K C_Twice (.ref C_Twice) = some true)
    (is_Twice_WakeError : PySem.W.mroIn K C_Twice (.ref C_WakeError) = some true)
    (ib1_WakeError : PySem.W.specialIn K (.ref C_WakeError) "__getattribute__" = some (some (.builtin "type.__getattribute__")))
    (ib2_WakeError : PySem.W.readsIn K C_WakeError (.type "type") = true)
    (ib3_WakeError : PySem.W.findCls K (.ref C_WakeError) (.type "type") "__init__" = some (.val (.builtin "ValueError.__init__")))
    (no_bool : PySem.W.nsIn K mainGlobals "bool" = some none)
    (no_enumerate : PySem.W.nsIn K mainGlobals "enumerate" = some none)
    (no_int : PySem.W.nsIn K mainGlobals "int" = some none)
    (no_isinstance : PySem.W.nsIn K mainGlobals "isinstance" = some none)
    (no_len : PySem.W.nsIn K mainGlobals "len" = some none)
    (no_list : PySem.W.nsIn K mainGlobals "list" = some none)
    (no_max : PySem.W.nsIn K mainGlobals "max" = some none)
    (no_min : PySem.W.nsIn K mainGlobals "min" = some none)
    (no_sorted : PySem.W.nsIn K mainGlobals "sorted" = some none)
    (no_str : PySem.W.nsIn K mainGlobals "str" = some none)
    (no_tuple : PySem.W.nsIn K mainGlobals "tuple" = some none)
    : ∃ a : Ad, a.f_law = a.f_law ∧ Txt K mg a :=
  ⟨⟨f_Twice___init__, _, f_NoBell___init__, _, f_Waits___init__, _, dT_Waits___init__, tk_Waits___init___0, f_Waits_put, _, f_Waits_take, _, f_Waits_due, _, f_Waits_least, _, f_Waits_time_of, _, f_Waits_all_of, _, f_Waits_check_waits, _, f_Row_enter, _, f_Row_leave, _, f_Row_pass_on, _, f__law_whole, _, f__law_cell_at, _, f__law_mixed, _, f__law_name, _, f__law_later, _, f__law_deed, _, f__law_due, _, f__law_asked, _, f__law_pairs_are, _, f__law_alike, _, f_law, _, C_Waits, C_Row, C_NoBell, C_Past, C_Twice, C_WakeError⟩, rfl, {
    F_Twice___init__ := funD_mk l_Twice___init__ c_Twice___init__,
    kp_Twice___init__ := k_Twice___init__,
    F_NoBell___init__ := funD_mk l_NoBell___init__ c_NoBell___init__,
    kp_NoBell___init__ := k_NoBell___init__,
    F_Waits___init__ := funD_mk l_Waits___init__ c_Waits___init__,
    kp_Waits___init__ := k_Waits___init__,
    D_Waits___init__ := ⟨⟨_, _, t_Waits___init__, rfl⟩⟩,
    F_Waits_put := funD_mk l_Waits_put c_Waits_put,
    kp_Waits_put := k_Waits_put,
    F_Waits_take := funD_mk l_Waits_take c_Waits_take,
    kp_Waits_take := k_Waits_take,
    F_Waits_due := funD_mk l_Waits_due c_Waits_due,
    kp_Waits_due := k_Waits_due,
    F_Waits_least := funD_mk l_Waits_least c_Waits_least,
    kp_Waits_least := k_Waits_least,
    F_Waits_time_of := funD_mk l_Waits_time_of c_Waits_time_of,
    kp_Waits_time_of := k_Waits_time_of,
    F_Waits_all_of := funD_mk l_Waits_all_of c_Waits_all_of,
    kp_Waits_all_of := k_Waits_all_of,
    F_Waits_check_waits := funD_mk l_Waits_check_waits c_Waits_check_waits,
    kp_Waits_check_waits := k_Waits_check_waits,
    F_Row_enter := funD_mk l_Row_enter c_Row_enter,
    kp_Row_enter := k_Row_enter,
    F_Row_leave := funD_mk l_Row_leave c_Row_leave,
    kp_Row_leave := k_Row_leave,
    F_Row_pass_on := funD_mk l_Row_pass_on c_Row_pass_on,
    kp_Row_pass_on := k_Row_pass_on,
    F__law_whole := funD_mk l__law_whole c__law_whole,
    kp__law_whole := k__law_whole,
    mg__law_whole := PySem.W.mg_of X G a__law_whole,
    F__law_cell_at := funD_mk l__law_cell_at c__law_cell_at,
    kp__law_cell_at := k__law_cell_at,
    mg__law_cell_at := PySem.W.mg_of X G a__law_cell_at,
    F__law_mixed := funD_mk l__law_mixed c__law_mixed,
    kp__law_mixed := k__law_mixed,
    mg__law_mixed := PySem.W.mg_of X G a__law_mixed,
    F__law_name := funD_mk l__law_name c__law_name,
    kp__law_name := k__law_name,
    mg__law_name := PySem.W.mg_of X G a__law_name,
    F__law_later := funD_mk l__law_later c__law_later,
    kp__law_later := k__law_later,
    mg__law_later := PySem.W.mg_of X G a__law_later,
    F__law_deed := funD_mk l__law_deed c__law_deed,
    kp__law_deed := k__law_deed,
    mg__law_deed := PySem.W.mg_of X G a__law_deed,
    F__law_due := funD_mk l__law_due c__law_due,
    kp__law_due := k__law_due,
    mg__law_due := PySem.W.mg_of X G a__law_due,
    F__law_asked := funD_mk l__law_asked c__law_asked,
    kp__law_asked := k__law_asked,
    mg__law_asked := PySem.W.mg_of X G a__law_asked,
    F__law_pairs_are := funD_mk l__law_pairs_are c__law_pairs_are,
    kp__law_pairs_are := k__law_pairs_are,
    mg__law_pairs_are := PySem.W.mg_of X G a__law_pairs_are,
    F__law_alike := funD_mk l__law_alike c__law_alike,
    kp__law_alike := k__law_alike,
    mg__law_alike := PySem.W.mg_of X G a__law_alike,
    F_law := funD_mk l_law c_law,
    kp_law := k_law,
    mg_law := PySem.W.mg_of X G a_law,
    mg_Waits := PySem.W.mg_of X G aC_Waits,
    cl_Waits := ⟨pg_Waits, hd_Waits, po_Waits, sa_Waits⟩,
    M_Waits := ⟨mk_Waits, a_Waits___init__, i_Waits___init__, kc_Waits⟩,
    m_Waits_put := ⟨a_Waits_put, i_Waits_put, k_Waits_put⟩,
    m_Waits_take := ⟨a_Waits_take, i_Waits_take, k_Waits_take⟩,
    m_Waits_due := ⟨a_Waits_due, i_Waits_due, k_Waits_due⟩,
    m_Waits_least := ⟨a_Waits_least, i_Waits_least, k_Waits_least⟩,
    m_Waits_time_of := ⟨a_Waits_time_of, i_Waits_time_of, k_Waits_time_of⟩,
    m_Waits_all_of := ⟨a_Waits_all_of, i_Waits_all_of, k_Waits_all_of⟩,
    m_Waits_check_waits := ⟨a_Waits_check_waits, i_Waits_check_waits, k_Waits_check_waits⟩,
    ty_Waits := ⟨t1_Waits, hgg, htt, t2_Waits⟩,
    is_Waits_Waits := kit_own t2_Waits t3_Waits is_Waits_Waits,
    mg_Row := PySem.W.mg_of X G aC_Row,
    cl_Row := ⟨pg_Row, hd_Row, po_Row, sa_Row⟩,
    na_Row_now := na_Row_now,
    na_Row_times := na_Row_times,
    M_Row := ⟨mk_Row, in_Row, i_Waits___init__, kc_Row⟩,
    m_Row_enter := ⟨a_Row_enter, i_Row_enter, k_Row_enter⟩,
    m_Row_leave := ⟨a_Row_leave, i_Row_leave, k_Row_leave⟩,
    m_Row_pass_on := ⟨a_Row_pass_on, i_Row_pass_on, k_Row_pass_on⟩,
    m_Row_put := ⟨im_Row_put, i_Waits_put, k_Waits_put⟩,
    m_Row_take := ⟨im_Row_take, i_Waits_take, k_Waits_take⟩,
    m_Row_due := ⟨im_Row_due, i_Waits_due, k_Waits_due⟩,
    m_Row_least := ⟨im_Row_least, i_Waits_least, k_Waits_least⟩,
    m_Row_time_of := ⟨im_Row_time_of, i_Waits_time_of, k_Waits_time_of⟩,
    m_Row_all_of := ⟨im_Row_all_of, i_Waits_all_of, k_Waits_all_of⟩,
    m_Row_check_waits := ⟨im_Row_check_waits, i_Waits_check_waits, k_Waits_check_waits⟩,
    ty_Row := ⟨t1_Row, hgg, htt, t2_Row⟩,
    is_Row_Waits := kit_own t2_Waits t3_Waits is_Row_Waits,
    mg_NoBell := PySem.W.mg_of X G aC_NoBell,
    mg_Past := PySem.W.mg_of X G aC_Past,
    x_Past := x_Past,
    mg_Twice := PySem.W.mg_of X G aC_Twice,
    mg_WakeError := PySem.W.mg_of X G aC_WakeError,
    x_WakeError := x_WakeError,
    te_NoBell := ⟨ga_NoBell, gn_NoBell, mb_NoBell, hd_NoBell, ⟨t1_NoBell, hgg, htt, t2_NoBell⟩⟩,
    iv_NoBell := kit_ve vv_NoBell,
    n_NoBell := ⟨⟨_, _, _, _, _, _, _, _, _, _, _, _, _, _, nl_NoBell⟩, x_WakeError, a_NoBell___init__, i_NoBell___init__, ⟨ga_NoBell, gn_NoBell, mb_NoBell, hd_NoBell, ⟨t1_NoBell, hgg, htt, t2_NoBell⟩⟩, sa_NoBell, tn_NoBell, fn_NoBell⟩,
    mr_NoBell_NoBell := is_NoBell_NoBell,
    is_NoBell_NoBell := kit_own t2_NoBell t3_NoBell is_NoBell_NoBell,
    mr_NoBell_Past := is_NoBell_Past,
    is_NoBell_Past := kit_not t2_Past t3_Past is_NoBell_Past nq_NoBell_Past,
    mr_NoBell_Twice := is_NoBell_Twice,
    is_NoBell_Twice := kit_not t2_Twice t3_Twice is_NoBell_Twice nq_NoBell_Twice,
    mr_NoBell_WakeError := is_NoBell_WakeError,
    is_NoBell_WakeError := kit_own t2_WakeError t3_WakeError is_NoBell_WakeError,
    te_Past := ⟨ga_Past, gn_Past, mb_Past, hd_Past, ⟨t1_Past, hgg, htt, t2_Past⟩⟩,
    iv_Past := kit_ve vv_Past,
    mr_Past_NoBell := is_Past_NoBell,
    is_Past_NoBell := kit_not t2_NoBell t3_NoBell is_Past_NoBell nq_Past_NoBell,
    mr_Past_Past := is_Past_Past,
    is_Past_Past := kit_own t2_Past t3_Past is_Past_Past,
    mr_Past_Twice := is_Past_Twice,
    is_Past_Twice := kit_not t2_Twice t3_Twice is_Past_Twice nq_Past_Twice,
    mr_Past_WakeError := is_Past_WakeError,
    is_Past_WakeError := kit_own t2_WakeError t3_WakeError is_Past_WakeError,
    te_Twice := ⟨ga_Twice, gn_Twice, mb_Twice, hd_Twice, ⟨t1_Twice, hgg, htt, t2_Twice⟩⟩,
    iv_Twice := kit_ve vv_Twice,
    n_Twice := ⟨⟨_, _, _, _, _, _, _, _, _, _, _, _, _, _, nl_Twice⟩, x_WakeError, a_Twice___init__, i_Twice___init__, ⟨ga_Twice, gn_Twice, mb_Twice, hd_Twice, ⟨t1_Twice, hgg, htt, t2_Twice⟩⟩, sa_Twice, tn_Twice, fn_Twice⟩,
    mr_Twice_NoBell := is_Twice_NoBell,
    is_Twice_NoBell := kit_not t2_NoBell t3_NoBell is_Twice_NoBell nq_Twice_NoBell,
    mr_Twice_Past := is_Twice_Past,
    is_Twice_Past := kit_not t2_Past t3_Past is_Twice_Past nq_Twice_Past,
    mr_Twice_Twice := is_Twice_Twice,
    is_Twice_Twice := kit_own t2_Twice t3_Twice is_Twice_Twice,
    mr_Twice_WakeError := is_Twice_WakeError,
    is_Twice_WakeError := kit_own t2_WakeError t3_WakeError is_Twice_WakeError,
    IB_WakeError := ⟨ib1_WakeError, ib2_WakeError, ib3_WakeError⟩,
    no_bool := PySem.W.mg_none_of X G no_bool,
    no_enumerate := PySem.W.mg_none_of X G no_enumerate,
    no_int := PySem.W.mg_none_of X G no_int,
    no_isinstance := PySem.W.mg_none_of X G no_isinstance,
    no_len := PySem.W.mg_none_of X G no_len,
    no_list := PySem.W.mg_none_of X G no_list,
    no_max := PySem.W.mg_none_of X G no_max,
    no_min := PySem.W.mg_none_of X G no_min,
    no_sorted := PySem.W.mg_none_of X G no_sorted,
    no_str := PySem.W.mg_none_of X G no_str,
    no_tuple := PySem.W.mg_none_of X G no_tuple
  }⟩
theorem Txt.o_NoBell {K : PySem.W.Frag} {mg : Str → Option Value} {a : Ad} (T : Txt K mg a) : ExcO K a.C_NoBell := ExN.o T.n_NoBell
theorem Txt.o_Past {K : PySem.W.Frag} {mg : Str → Option Value} {a : Ad} (T : Txt K mg a) : ExcO K a.C_Past := ExcK.o T.x_Past
theorem Txt.o_Twice {K : PySem.W.Frag} {mg : Str → Option Value} {a : Ad} (T : Txt K mg a) : ExcO K a.C_Twice := ExN.o T.n_Twice
theorem Txt.o_WakeError {K : PySem.W.Frag} {mg : Str → Option Value} {a : Ad} (T : Txt K mg a) : ExcO K a.C_WakeError := ExcK.o T.x_WakeError
theorem Txt.hit_NoBell_NoBell {K : PySem.W.Frag} {mg : Str → Option Value} {a : Ad} (T : Txt K mg a) : HitD K a.C_NoBell a.C_NoBell true := ⟨T.o_NoBell, T.mr_NoBell_NoBell⟩
theorem Txt.hit_NoBell_Past {K : PySem.W.Frag} {mg : Str → Option Value} {a : Ad} (T : Txt K mg a) : HitD K a.C_Past a.C_NoBell false := ⟨T.o_NoBell, T.mr_NoBell_Past⟩
theorem Txt.hit_NoBell_Twice {K : PySem.W.Frag} {mg : Str → Option Value} {a : Ad} (T : Txt K mg a) : HitD K a.C_Twice a.C_NoBell false := ⟨T.o_NoBell, T.mr_NoBell_Twice⟩
theorem Txt.hit_NoBell_WakeError {K : PySem.W.Frag} {mg : Str → Option Value} {a : Ad} (T : Txt K mg a) : HitD K a.C_WakeError a.C_NoBell true := ⟨T.o_NoBell, T.mr_NoBell_WakeError⟩
theorem Txt.hit_Past_NoBell {K : PySem.W.Frag} {mg : Str → Option Value} {a : Ad} (T : Txt K mg a) : HitD K a.C_NoBell a.C_Past false := ⟨T.o_Past, T.mr_Past_NoBell⟩
theorem Txt.hit_Past_Past {K : PySem.W.Frag} {mg : Str → Option Value} {a : Ad} (T : Txt K mg a) : HitD K a.C_Past a.C_Past true := ⟨T.o_Past, T.mr_Past_Past⟩
theorem Txt.hit_Past_Twice {K : PySem.W.Frag} {mg : Str → Option Value} {a : Ad} (T : Txt K mg a) : HitD K a.C_Twice a.C_Past false := ⟨T.o_Past, T.mr_Past_Twice⟩
theorem Txt.hit_Past_WakeError {K : PySem.W.Frag} {mg : Str → Option Value} {a : Ad} (T : Txt K mg a) : HitD K a.C_WakeError a.C_Past true := ⟨T.o_Past, T.mr_Past_WakeError⟩
theorem Txt.hit_Twice_NoBell {K : PySem.W.Frag} {mg : Str → Option Value} {a : Ad} (T : Txt K mg a) : HitD K a.C_NoBell a.C_Twice false := ⟨T.o_Twice, T.mr_Twice_NoBell⟩
theorem Txt.hit_Twice_Past {K : PySem.W.Frag} {mg : Str → Option Value} {a : Ad} (T : Txt K mg a) : HitD K a.C_Past a.C_Twice false := ⟨T.o_Twice, T.mr_Twice_Past⟩
theorem Txt.hit_Twice_Twice {K : PySem.W.Frag} {mg : Str → Option Value} {a : Ad} (T : Txt K mg a) : HitD K a.C_Twice a.C_Twice true := ⟨T.o_Twice, T.mr_Twice_Twice⟩
theorem Txt.hit_Twice_WakeError {K : PySem.W.Frag} {mg : Str → Option Value} {a : Ad} (T : Txt K mg a) : HitD K a.C_WakeError a.C_Twice true := ⟨T.o_Twice, T.mr_Twice_WakeError⟩
def sp_law (K : PySem.W.Frag) : Sp := fun vs H Q _ => ∃ (l : Addr) (ns : List Int), vs = [.ref l] ∧ SqL K H l (ns.map V.int) ∧ ns.length ≤ 63 ∧ ∀ H', Q (.bl true) H'
def tmD (ts : List (Str × Int)) : List (Str × PyData) := ts.map fun x => (x.1, .int x.2)
structure WAt (C : Addr) (H : Hp) (v : V) (d : Addr) (n : Int) (ts : List (Str × Int)) : Prop where
  ins : Ins H v C [("now", .int n), ("times", .ref d)]
  dat : DAt H d (tmD ts)
theorem WAt.keeps {C : Addr} {H H' : Hp} {v : V} {d : Addr} {n : Int} {ts : List (Str × Int)} (s : Same H H') (h : WAt C H v d n ts) : WAt C H' v d n ts := ⟨h.ins.keeps s, h.dat.keeps s⟩
theorem tmD_len (ts : List (Str × Int)) : (tmD ts).length = ts.length := List.length_map ..
section
variable {P : Program} {w : World} {K : PySem.W.Frag} {mg : Str → Option Value} {base : Heap} {a : Ad}
theorem law_binds (T : Txt K mg a) (s : Shared) (u : Value) : BindsTo s a.fd_law ⟨[u], []⟩ [("_law_script", u)] := by
  obtain ⟨oc, od, kV, doc, pm, an, cdv, ct, osl, e, lk, hcd⟩ := T.F_law.ex
  rw [e]
  exact .of_eq rfl
theorem ok_law_cell_at (T : Txt K mg a) : FnOk P w K mg base CX0 1 a.f__law_cell_at a.fd__law_cell_at ["_law_script", "_law_k"] (spCell K) := by
  refine T.F__law_cell_at.ok sc__law_cell_at (fun vs H Q E h => ?_) (fun cdv A outer s H vs Q E hr h => ?_)
  · obtain ⟨_, _, _, rfl, _⟩ := h; rfl
  · obtain ⟨l, ns, i, rfl, hl, h0, k⟩ := h
    refine ⟨_, (pss_cut (ps_if (pt_cmpR op_lt (pv 1) (pe_callB call_lenK rfl T.no_len PySem.boot_len (pa_cons (pv 0) pa_nil)) (nomark _))
        (pss_one (ps_ret (pe_ix ix_K (pv 0) (pv 1) (fun _ _ => rfl))))
        pss_nil)
      (pss_one (ps_ret pe_int))), ?_⟩
    repeat' (walk_at "rd1")
    · exact r_ixL hl (cell_at h0 (by assumption)) k
    · rw [cell_no h0 (by assumption)] at k; exact k
theorem cal_law_cell_at (T : Txt K mg a) : Cal P w K mg base 1 a.f__law_cell_at ["_law_script", "_law_k"] [] (spCell K) :=
  ⟨⟨_, _, ok_law_cell_at T, T.F__law_cell_at.binds fun _ _ _ _ _ _ => .all fun us hl => match us, hl with | [_, _], _ => rfl, .nil⟩⟩
def sp_enter : Sp := fun vs H Q _ => ∃ v n t, vs = [v, n, t] ∧ Q .non H
theorem u_enter {H : Hp} {Q : VK} {E : XK} {v n t : V} (q : Q .non H) : sp_enter [v, n, t] H Q E := ⟨v, n, t, rfl, q⟩
local macro_rules | `(tactic| walk_at "use") => `(tactic| first
  | ((with_reducible refine' u_cell ?e1 ?e2 ?_); (case e1 => walk_at "sql"); (case e2 => omega))
  | with_reducible refine u_enter ?_
  | fail)
theorem ok_enter (T : Txt K mg a) : FnOk P w K mg base CX0 1 a.f_Row_enter a.fd_Row_enter ["self", "name", "time"] sp_enter := by
  refine T.F_Row_enter.ok sc_Row_enter (fun vs H Q E h => ?_) (fun cdv A outer s H vs Q E hr h => ?_)
  · obtain ⟨_, _, _, rfl, _⟩ := h; rfl
  · obtain ⟨v, n, t, rfl, q⟩ := h
    refine ⟨_, (pss_one ps_pass), ?_⟩
    repeat' (walk_at "rd1")
    exact q
theorem cal_enter (T : Txt K mg a) : Cal P w K mg base 1 a.f_Row_enter ["self", "name", "time"] [] sp_enter :=
  ⟨⟨_, _, ok_enter T, T.F_Row_enter.binds fun _ _ _ _ _ _ => .all fun us hl => match us, hl with | [_, _, _], _ => rfl, .nil⟩⟩
theorem putD_new {m : List (Str × PyData)} {k : Str} {d : PyData} (h : lkp m k = none) : putD m k d = m ++ [(k, d)] := by
  unfold putD
  rw [if_neg]
  unfold lkp at h
  rw [Option.map_eq_none_iff, List.find?_eq_none] at h
  simp only [List.any_eq_true, not_exists, not_and]
  exact h
theorem ins_mvW {C d : Addr} {H H' : Hp} {v : V} {fs : List (Str × V)} {m : List (Str × PyData)} (h : Ins H v C fs) (hd : DAt H d m) (mv : Mv [d] H H') : Ins H' v C fs := by
  obtain ⟨p, dx, rfl, e⟩ := h
  obtain ⟨kvs, e2, _⟩ := hd
  exact ⟨p, dx, rfl, mv.at (by simpa using ne_of e e2 (by intro y; cases y)) e⟩
theorem ok_init_Twice (T : Txt K mg a) : FnOk P w K mg base CX0 1 a.f_Twice___init__ a.fd_Twice___init__ ["self", "name"] (sp_initN K a.C_Twice) := by
  have hO := T.o_Twice
  refine T.F_Twice___init__.ok sc_Twice___init__ (fun vs H Q E h => ?_) (fun cdv A outer s H vs Q E hr h => ?_)
  · obtain ⟨_, _, rfl, _⟩ := h; rfl
  · obtain ⟨p, n, rfl, hn, hp, q⟩ := h
    refine ⟨_, (pss_cut (ps_expr (pe_excInit rfl T.mg_WakeError T.IB_WakeError (pa_cons (pv 0) (pa_cons (pe_fsR1 (pv 1) (by decide +kernel)) pa_nil))))
      (pss_one (ps_fldX (pv 0) (pv 1) rfl))), ?_⟩
    repeat' (walk_at "rd1")
    refine r_excInitP hp hO ?_
    repeat' (walk_at "rd1")
    exact ⟨p, _, _, _, rfl, hp, T.n_Twice, fun d h1 h2 => q d h1 h2⟩
theorem cal_init_Twice (T : Txt K mg a) : Cal P w K mg base 1 a.f_Twice___init__ ["self", "name"] [] (sp_initN K a.C_Twice) :=
  ⟨⟨_, _, ok_init_Twice T, T.F_Twice___init__.binds fun _ _ _ _ _ _ => .all fun us hl => match us, hl with | [_, _], _ => rfl, .nil⟩⟩
theorem ok_init_NoBell (T : Txt K mg a) : FnOk P w K mg base CX0 1 a.f_NoBell___init__ a.fd_NoBell___init__ ["self", "name"] (sp_initN K a.C_NoBell) := by
  have hO := T.o_NoBell
  refine T.F_NoBell___init__.ok sc_NoBell___init__ (fun vs H Q E h => ?_) (fun cdv A outer s H vs Q E hr h => ?_)
  · obtain ⟨_, _, rfl, _⟩ := h; rfl
  · obtain ⟨p, n, rfl, hn, hp, q⟩ := h
    refine ⟨_, (pss_cut (ps_expr (pe_excInit rfl T.mg_WakeError T.IB_WakeError (pa_cons (pv 0) (pa_cons (pe_fsR2 (pv 1) (by decide +kernel)) pa_nil))))
      (pss_one (ps_fldX (pv 0) (pv 1) rfl))), ?_⟩
    repeat' (walk_at "rd1")
    refine r_excInitP hp hO ?_
    repeat' (walk_at "rd1")
    exact ⟨p, _, _, _, rfl, hp, T.n_NoBell, fun d h1 h2 => q d h1 h2⟩
theorem cal_init_NoBell (T : Txt K mg a) : Cal P w K mg base 1 a.f_NoBell___init__ ["self", "name"] [] (sp_initN K a.C_NoBell) :=
  ⟨⟨_, _, ok_init_NoBell T, T.F_NoBell___init__.binds fun _ _ _ _ _ _ => .all fun us hl => match us, hl with | [_, _], _ => rfl, .nil⟩⟩
def NoName (ts : List (Str × Int)) (x : Str) : Prop := lkp (tmD ts) x = none
def Xn (H : Hp) (d : Addr) (x : Str) : Hp := upd H d (.xd [("name", .str x)])
def sp_put (C cT cP : Addr) : Sp := fun vs H Q E => ∃ v d n ts x t, vs = [v, .str x, .int t] ∧ WAt C H v d n ts ∧ ts.length ≤ 100 ∧ NmT x ∧
  (∀ u, lkp (tmD ts) x = some u → ∀ d', H d' = none → E (.ref cT) (some d') (Xn H d' x)) ∧ (lkp (tmD ts) x = none → t ≤ n → E (.ref cP) none H) ∧
  (lkp (tmD ts) x = none → n < t → ∀ H', Mv [d] H H' → WAt C H' v d n (ts ++ [(x, t)]) → Q .non H')
theorem ok_put (T : Txt K mg a) : FnOk P w K mg base (CXD P w) 3 a.f_Waits_put a.fd_Waits_put ["self", "name", "time"] (sp_put a.C_Row a.C_Twice a.C_Past) := by
  have n1 := T.na_Row_now; have n2 := T.na_Row_times; have cl := T.cl_Row
  have m_enter := T.m_Row_enter
  have c_enter := cal_enter (P := P) (w := w) (base := base) T
  have c_init_Twice := cal_init_Twice (P := P) (w := w) (base := base) T
  refine T.F_Waits_put.okD sc_Waits_put (fun vs H Q E h => ?_) (fun cdv A outer s H vs Q E hr h => ?_)
  · obtain ⟨_, _, _, _, _, _, rfl, _⟩ := h; rfl
  · obtain ⟨v, d, n, ts, x, t, rfl, hw, hl, hx, qT, qP, q⟩ := h
    have hi := hw.ins; have hd := hw.dat
    have hml := tmD_len ts
    refine ⟨_, (pss_cut (ps_if (pt_cmp (pc_din (hu_of hr) (pv 1) (pe_fld (pv 0) rfl)) rfl)
        (pss_one (ps_raiseN raiseD rfl (pa_cons (pv 1) pa_nil) rfl T.mg_Twice T.n_Twice (hr.mono (by decide)) c_init_Twice rfl))
        pss_nil)
      (pss_cut (ps_if (pt_cmpR op_le (pv 2) (pe_fld (pv 0) rfl) (nomark _))
        (pss_one (ps_raiseP raiseD rfl (pa_cons pe_str pa_nil) rfl T.mg_Past T.x_Past rfl))
        pss_nil)
      (pss_cut (ps_dput (hu_of hr) (pe_fld (pv 0) rfl) (pv 1) (pv 2) rfl)
      (pss_one (ps_expr (pn_meth (pv 0) cl m_enter c_enter (hr.mono (by decide)) (pa_cons (pv 1) (pa_cons (pv 2) pa_nil)))))))), ?_⟩
    repeat' (walk_at "rd1")
    · rename_i o e hb
      refine r_raisedN hx (fun d' hd' => ?_)
      cases hk : lkp (tmD ts) x with
      | none => rw [e, hk] at hb; cases hb
      | some u => exact qT u hk d' hd'
    · rename_i o e hb1 hb2
      exact qP (by cases hk : lkp (tmD ts) x with | none => rfl | some u => rw [e, hk] at hb1; cases hb1) hb2
    · rename_i o e hb1 hb2 H2 mv2 hd2
      have hk : lkp (tmD ts) x = none := by cases hk : lkp (tmD ts) x with | none => rfl | some u => rw [e, hk] at hb1; cases hb1
      have hi2 := ins_mvW hi hd mv2
      rw [putD_new hk] at hd2
      repeat' (walk_at "rd1")
      exact q hk (by omega) _ mv2 ⟨hi2, by unfold tmD at hd2 ⊢; rw [List.map_append]; exact hd2⟩
theorem cal_put (T : Txt K mg a) : CalD P w K mg base 3 a.f_Waits_put ["self", "name", "time"] [] (sp_put a.C_Row a.C_Twice a.C_Past) :=
  ⟨⟨_, _, ok_put T, T.F_Waits_put.binds fun _ _ _ _ _ _ => .all fun us hl => match us, hl with | [_, _, _], _ => rfl, .nil⟩⟩
def sp_check (C cN : Addr) : Sp := fun vs H Q E => ∃ v d n ts x, vs = [v, .str x] ∧ WAt C H v d n ts ∧ NmT x ∧ (lkp (tmD ts) x = none → ∀ d', H d' = none → E (.ref cN) (some d') (Xn H d' x)) ∧ (∀ u, lkp (tmD ts) x = some u → Q .non H)
theorem ok_check (T : Txt K mg a) : FnOk P w K mg base (CXD P w) 3 a.f_Waits_check_waits a.fd_Waits_check_waits ["self", "name"] (sp_check a.C_Row a.C_NoBell) := by
  have n1 := T.na_Row_now; have n2 := T.na_Row_times; have cl := T.cl_Row
  have c_init_NoBell := cal_init_NoBell (P := P) (w := w) (base := base) T
  refine T.F_Waits_check_waits.okD sc_Waits_check_waits (fun vs H Q E h => ?_) (fun cdv A outer s H vs Q E hr h => ?_)
  · obtain ⟨_, _, _, _, _, rfl, _⟩ := h; rfl
  · obtain ⟨v, d, n, ts, x, rfl, hw, hx, qN, q⟩ := h
    have hi := hw.ins; have hd := hw.dat
    refine ⟨_, (pss_one (ps_if (pt_cmp (pc_dnotin (hu_of hr) (pv 1) (pe_fld (pv 0) rfl)) rfl)
        (pss_one (ps_raiseN raiseD rfl (pa_cons (pv 1) pa_nil) rfl T.mg_NoBell T.n_NoBell (hr.mono (by decide)) c_init_NoBell rfl))
        pss_nil)), ?_⟩
    repeat' (walk_at "rd1")
    · rename_i o e hb
      refine r_raisedN hx (fun d' hd' => ?_)
      cases hk : lkp (tmD ts) x with
      | none => exact qN hk d' hd'
      | some u => rw [e, hk] at hb; cases hb
    · rename_i o e hb
      cases hk : lkp (tmD ts) x with
      | none => rw [e, hk] at hb; cases hb
      | some u => exact q u hk
theorem cal_check (T : Txt K mg a) : CalD P w K mg base 3 a.f_Waits_check_waits ["self", "name"] [] (sp_check a.C_Row a.C_NoBell) :=
  ⟨⟨_, _, ok_check T, T.F_Waits_check_waits.binds fun _ _ _ _ _ _ => .all fun us hl => match us, hl with | [_, _], _ => rfl, .nil⟩⟩
def sp_leave : Sp := fun vs H Q _ => ∃ v n t, vs = [v, n, t] ∧ Q .non H
theorem ok_leave (T : Txt K mg a) : FnOk P w K mg base CX0 1 a.f_Row_leave a.fd_Row_leave ["self", "name", "time"] sp_leave := by
  refine T.F_Row_leave.ok sc_Row_leave (fun vs H Q E h => ?_) (fun cdv A outer s H vs Q E hr h => ?_)
  · obtain ⟨_, _, _, rfl, _⟩ := h; rfl
  · obtain ⟨v, n, t, rfl, q⟩ := h
    refine ⟨_, (pss_one ps_pass), ?_⟩
    repeat' (walk_at "rd1")
    exact q
theorem cal_leave (T : Txt K mg a) : Cal P w K mg base 1 a.f_Row_leave ["self", "name", "time"] [] sp_leave :=
  ⟨⟨_, _, ok_leave T, T.F_Row_leave.binds fun _ _ _ _ _ _ => .all fun us hl => match us, hl with | [_, _, _], _ => rfl, .nil⟩⟩
def dropT (ts : List (Str × Int)) (x : Str) : List (Str × Int) := ts.filter fun y => !decide (y.1 = x)
theorem drop_tmD (ts : List (Str × Int)) (x : Str) : dropD (tmD ts) x = tmD (dropT ts x) := by
  unfold dropD tmD dropT
  rw [List.filter_map]
  congr 1
  refine List.filter_congr fun y _ => ?_
  simp
theorem r_dpopV {H : Hp} {Q : VK} {p : Addr} {m : List (Str × PyData)} {k : Str} {d : PyData} (hp : DAt H p m) (hk : lkp m k = some d) (h : ∀ v H2, Dv H v d → Mv [p] H H2 → DAt H2 p (dropD m k) → Q v H2) : rDPop (.ref p) [.str k] H Q := by
  obtain ⟨kvs, e, dk⟩ := hp
  obtain ⟨v, hv, hd⟩ := (dk.val (k := k)).1 d hk
  have mv : Mv [p] H (upd H p (.dK (dropK kvs (.inr k)))) := .of_upd e (by intro _ z; cases z)
  refine ⟨p, kvs, .inr k, v, rfl, rfl, e, hv, h v _ hd mv ⟨_, upd_same, dk.drop.imm mv.tp⟩⟩
def sp_take (C cN : Addr) : Sp := fun vs H Q E => ∃ v d n ts x, vs = [v, .str x] ∧ WAt C H v d n ts ∧ NmT x ∧ (lkp (tmD ts) x = none → ∀ d', H d' = none → E (.ref cN) (some d') (Xn H d' x)) ∧
  (∀ t, lkp (tmD ts) x = some (.int t) → ∀ H', Mv [d] H H' → WAt C H' v d n (dropT ts x) → Q (.int t) H')
theorem tmD_int {ts : List (Str × Int)} {x : Str} {e : PyData} (h : lkp (tmD ts) x = some e) : ∃ t, e = .int t := by
  unfold lkp at h
  obtain ⟨kv, h1, rfl⟩ := Option.map_eq_some_iff.mp h
  obtain ⟨y, _, rfl⟩ := List.mem_map.mp (List.mem_of_find?_eq_some h1)
  exact ⟨_, rfl⟩
theorem ok_take (T : Txt K mg a) : FnOk P w K mg base (CXD P w) 5 a.f_Waits_take a.fd_Waits_take ["self", "name"] (sp_take a.C_Row a.C_NoBell) := by
  have n1 := T.na_Row_now; have n2 := T.na_Row_times; have cl := T.cl_Row
  have m_leave := T.m_Row_leave; have m_check_waits := T.m_Row_check_waits
  have c_leave := cal_leave (P := P) (w := w) (base := base) T
  have c_check_waits := cal_check (P := P) (w := w) (base := base) T
  refine T.F_Waits_take.okD sc_Waits_take (fun vs H Q E h => ?_) (fun cdv A outer s H vs Q E hr h => ?_)
  · obtain ⟨_, _, _, _, _, rfl, _⟩ := h; rfl
  · obtain ⟨v, d, n, ts, x, rfl, hw, hx, qN, q⟩ := h
    have hi := hw.ins; have hd := hw.dat
    refine ⟨_, (pss_cut (ps_expr (pd_meth (pv 0) cl m_check_waits c_check_waits (hr.mono (by decide)) passD (pa_cons (pv 1) pa_nil)))
      (pss_cut (ps_set (i := 2) sc_Waits_take.nd rfl (Or.inl rfl) (pe_bm PySem.F.plainAttrs_dict PySem.F.slot_dict_pop PySem.F.type_dict_pop mt_dpop (pe_fld (pv 0) rfl) (pa_cons (pv 1) pa_nil)))
      (pss_cut (ps_expr (pn_meth (pv 0) cl m_leave c_leave (hr.mono (by decide)) (pa_cons (pv 1) (pa_cons (pv 2) pa_nil))))
      (pss_one (ps_ret (pv 2)))))), ?_⟩
    repeat' (walk_at "rd1")
    refine ⟨v, d, n, ts, x, rfl, hw, hx, qN, fun u hu => ?_⟩
    obtain ⟨t, rfl⟩ := tmD_int hu
    repeat' (walk_at "rd1")
    refine r_tyD hd ?_
    repeat' (walk_at "rd1")
    refine r_dpopV hd hu (fun v6 H6 hv6 mv6 hd6 => ?_)
    obtain rfl := hv6.int_inv
    have hi6 := ins_mvW hi hd mv6
    repeat' (walk_at "rd1")
    refine ⟨_, _, _, rfl, ?_⟩
    repeat' (walk_at "rd1")
    rw [drop_tmD] at hd6
    exact q t hu _ mv6 ⟨hi6, hd6⟩
theorem cal_take (T : Txt K mg a) : CalD P w K mg base 5 a.f_Waits_take ["self", "name"] [] (sp_take a.C_Row a.C_NoBell) :=
  ⟨⟨_, _, ok_take T, T.F_Waits_take.binds fun _ _ _ _ _ _ => .all fun us hl => match us, hl with | [_, _], _ => rfl, .nil⟩⟩
def sp_winit (C : Addr) : Sp := fun vs H Q _ => ∃ p dx n, vs = [.ref p, .int n] ∧ H p = some (.ins C dx []) ∧ ∀ H' d, Mv [p] H H' → H d = none → WAt C H' (.ref p) d n [] → Q .non H'
theorem ok_winit (T : Txt K mg a) : FnOk P w K mg base CX0 1 a.f_Waits___init__ a.fd_Waits___init__ ["self", "now"] (sp_winit a.C_Row) := by
  have n1 := T.na_Row_now; have n2 := T.na_Row_times; have cl := T.cl_Row
  refine T.F_Waits___init__.ok sc_Waits___init__ (fun vs H Q E h => ?_) (fun cdv A outer s H vs Q E hr h => ?_)
  · obtain ⟨_, _, _, rfl, _⟩ := h; rfl
  · obtain ⟨p, dx, n, rfl, hp, q⟩ := h
    refine ⟨_, (pss_cut (ps_fld (pv 0) (pv 1) rfl)
      (pss_one (ps_fld (pv 0) pe_dnewK rfl))), ?_⟩
    repeat' (walk_at "rd1")
    rename_i d H2 sm2 hn2 hd2
    have mv1 : Mv [p] H (upd H p (.ins a.C_Row dx [("now", .int n)])) := .of_upd hp (by intro _ z; cases z)
    have e2 := sm2 p _ upd_same
    have mv2 : Mv [p] H2 (upd H2 p (.ins a.C_Row dx [("now", .int n), ("times", .ref d)])) := .of_upd e2 (by intro _ z; cases z)
    have hn : H d = none := mv1.none hn2
    have hpd : d ≠ p := Ne.symm (ne_of_none hp hn)
    exact q _ d (mv1.trans ((sm2.mv (S := [p])).trans mv2)) hn ⟨⟨p, dx, rfl, upd_same⟩, hd2.mv mv2 (by simpa using hpd)⟩
theorem cal_Row_1 (T : Txt K mg a) : Cal P w K mg base 1 a.f_Waits___init__ ["self", "now"] [] (sp_winit a.C_Row) :=
  ⟨⟨_, _, ok_winit T, T.F_Waits___init__.binds fun _ _ _ _ _ _ s us kx hl => by
    obtain ⟨o, n, h1, h2⟩ := T.D_Waits___init__.ex
    have hl : us.length = 2 := by simp at hl; omega
    match us, hl with
    | [_, _], _ => exact PySem.W.binds_K kx rfl h1 h2 rfl rfl, .nil⟩⟩
theorem b_Row_0 (T : Txt K mg a) : Binds K a.fd_Waits___init__ ["self", "now"] [.int 0 a.tk_Waits___init___0] := T.F_Waits___init__.binds fun _ _ _ _ _ _ s us kx hl => by
  obtain ⟨o, n, h1, h2⟩ := T.D_Waits___init__.ex
  have hl : us.length = 1 := by simp at hl; omega
  match us, hl with
  | [_], _ => exact PySem.W.binds_K kx rfl h1 h2 rfl rfl
theorem cal_Row_0 (T : Txt K mg a) : Cal P w K mg base 1 a.f_Waits___init__ ["self", "now"] [.int 0] (sp_winit a.C_Row) := ⟨⟨_, _, ok_winit T, b_Row_0 T, .cons ⟨_, rfl⟩ .nil⟩⟩
theorem u_wmake {C : Addr} {H : Hp} {Q : VK} {E : XK} {n : Int} {us : List V} (eu : us = [.int n]) (k : ∀ v H2 d, Same H H2 → H d = none → WAt C H2 v d n [] → Q v H2) : MakeP C (sp_winit C) us H Q E := by
  refine ⟨_, eu, fun x dx hx hd ne => ⟨x, dx, n, rfl, upd_same, fun H' d mv h1 hg => ⟨rfl, ?_⟩⟩⟩
  have z : ∀ {d : Addr}, upd (upd H dx (.own x)) x (.ins C dx []) d = none → H d = none := by
    intro d h
    unfold upd at h
    split at h
    · cases h
    · split at h
      · cases h
      · exact h
  refine k _ _ d (fun b u e => ?_) (z h1) hg
  have hb : b ≠ x := ne_of_none e hx
  refine mv.kp b u (by simpa using hb) ?_
  rw [upd_ne hb, upd_ne (ne_of_none e hd)]
  exact e
def sp_timeof (C : Addr) : Sp := fun vs H Q _ => ∃ v d n ts x, vs = [v, .str x] ∧ WAt C H v d n ts ∧ (∀ t, lkp (tmD ts) x = some (.int t) → Q (.int t) H) ∧ (lkp (tmD ts) x = none → Q .non H)
theorem ok_timeof (T : Txt K mg a) : FnOk P w K mg base CX0 1 a.f_Waits_time_of a.fd_Waits_time_of ["self", "name"] (sp_timeof a.C_Row) := by
  have n1 := T.na_Row_now; have n2 := T.na_Row_times; have cl := T.cl_Row
  refine T.F_Waits_time_of.ok sc_Waits_time_of (fun vs H Q E h => ?_) (fun cdv A outer s H vs Q E hr h => ?_)
  · obtain ⟨_, _, _, _, _, rfl, _⟩ := h; rfl
  · obtain ⟨v, d, n, ts, x, rfl, hw, q1, q2⟩ := h
    have hi := hw.ins; have hd := hw.dat
    refine ⟨_, (pss_one (ps_ret (pe_dget1 (hu_of hr) (pe_fld (pv 0) rfl) (pv 1) ⟨rfl, rfl, rfl, rfl⟩))), ?_⟩
    repeat' (walk_at "rd1")
    refine r_dget1o hd (fun e he v' hv' => ?_) (fun he => ?_)
    · obtain ⟨t, rfl⟩ := tmD_int he
      obtain rfl := hv'.int_inv
      exact q1 t he
    · exact q2 he
theorem cal_timeof (T : Txt K mg a) : Cal P w K mg base 1 a.f_Waits_time_of ["self", "name"] [] (sp_timeof a.C_Row) :=
  ⟨⟨_, _, ok_timeof T, T.F_Waits_time_of.binds fun _ _ _ _ _ _ => .all fun us hl => match us, hl with | [_, _], _ => rfl, .nil⟩⟩
def sp_least (C : Addr) : Sp := fun vs H Q _ => ∃ v d n ts, vs = [v] ∧ WAt C H v d n ts ∧ (ts = [] → Q .non H) ∧ (∀ t ∈ ts.map (·.2), (∀ u ∈ ts.map (·.2), t ≤ u) → Q (.int t) H)
theorem ok_least (T : Txt K mg a) : FnOk P w K mg base CX0 1 a.f_Waits_least a.fd_Waits_least ["self"] (sp_least a.C_Row) := by
  have n1 := T.na_Row_now; have n2 := T.na_Row_times; have cl := T.cl_Row
  refine T.F_Waits_least.ok sc_Waits_least (fun vs H Q E h => ?_) (fun cdv A outer s H vs Q E hr h => ?_)
  · obtain ⟨_, _, _, _, rfl, _⟩ := h; rfl
  · obtain ⟨v, d, n, ts, rfl, hw, q1, q2⟩ := h
    have hi := hw.ins; have hd := hw.dat
    refine ⟨_, (pss_cut (ps_if (pt_not (pt_truth (pe_fld (pv 0) rfl) (fun _ => rfl)))
        (pss_one (ps_ret pe_non))
        pss_nil)
      (pss_one (ps_ret (pe_minV (pe_fld (pv 0) rfl) rfl rfl T.no_min)))), ?_⟩
    repeat' (walk_at "rd1")
    refine r_truDD hd ?_
    repeat' (walk_at "rd1")
    · rename_i hb
      exact q1 (by cases ts with | nil => rfl | cons y r => simp [tmD] at hb)
    · rename_i hb
      have hne : 0 < (ts.map (·.2)).length := by
        cases ts with
        | nil => simp [tmD] at hb
        | cons y r => simp
      refine r_minV hd (ns := ts.map (·.2)) (by unfold tmD; rw [List.map_map, List.map_map]; rfl) hne (fun t ht hm => ?_)
      exact q2 t ht hm
theorem cal_least (T : Txt K mg a) : Cal P w K mg base 1 a.f_Waits_least ["self"] [] (sp_least a.C_Row) :=
  ⟨⟨_, _, ok_least T, T.F_Waits_least.binds fun _ _ _ _ _ _ => .all fun us hl => match us, hl with | [_], _ => rfl, .nil⟩⟩
def wpD (x : Str × PyData) : PyData := match x.2 with
  | .int t => pairD (t, x.1)
  | _ => .none
theorem wpD_imm (x : Str × PyData) : Imm (wpD x) = true := by
  obtain ⟨n, d⟩ := x
  cases d <;> rfl
def leD (t : Int) (x : Str × PyData) : Bool := match x.2 with
  | .int u => decide (u ≤ t)
  | _ => false
def swp (x : Str × Int) : Int × Str := (x.2, x.1)
def Srt (ks : List (Int × Str)) : Prop := ks.Pairwise fun c d => ltIS d c = false
def sp_allof (C : Addr) : Sp := fun vs H Q _ => ∃ v d n ts, vs = [v] ∧ WAt C H v d n ts ∧ ts.length < 60 ∧ ∀ q H' ks, Same H H' → H q = none → ks.Perm (ts.map swp) → Srt ks → LAt H' q (ks.map pairD) → Q (.ref q) H'
theorem u_allof {C : Addr} {H : Hp} {Q : VK} {E : XK} {v : V} {d : Addr} {n : Int} {ts : List (Str × Int)} (h : WAt C H v d n ts) (hl : ts.length < 60) (q : ∀ q H' ks, Same H H' → H q = none → ks.Perm (ts.map swp) → Srt ks → LAt H' q (ks.map pairD) → Q (.ref q) H') : sp_allof C [v] H Q E := ⟨v, d, n, ts, rfl, h, hl, q⟩
theorem fil_all {α : Type} (l : List α) : l.filter (fun _ => true) = l := List.filter_eq_self.mpr fun _ _ => rfl
theorem ok_allof (T : Txt K mg a) : FnOk P w K mg base CX0 1 a.f_Waits_all_of a.fd_Waits_all_of ["self"] (sp_allof a.C_Row) := by
  have n1 := T.na_Row_now; have n2 := T.na_Row_times; have cl := T.cl_Row
  refine T.F_Waits_all_of.ok sc_Waits_all_of (fun vs H Q E h => ?_) (fun cdv A outer s H vs Q E hr h => ?_)
  · obtain ⟨_, _, _, _, rfl, _⟩ := h; rfl
  · obtain ⟨v, d, n, ts, rfl, hw, hl, q⟩ := h
    have hi := hw.ins; have hd := hw.dat
    refine ⟨_, (pss_one (ps_ret (pe_callB call_sortP rfl T.no_sorted PyProof.Rows.boot_sorted (pa_cons (pe_thaw (pe_lc (T := ["name", "time"]) (M := ["self"]) (lcn (defScope s_Waits_all_of) ["self"] rfl rfl (by decide +kernel)) rfl (pi_items (pe_fld (pv 0) rfl)) (fun _ _ _ _ _ => (pg_tupK (K := K) (n := 2) rfl rfl (pgs_cons (pg_name (i := 0) (show List.Nodup (["name", "time", "self"] : List Str) by decide +kernel) rfl (Or.inl rfl)) (pgs_cons (pg_name (i := 1) (show List.Nodup (["name", "time", "self"] : List Str) by decide +kernel) rfl (Or.inl rfl)) pgs_nil)))) (gown_tup (gsown_cons (by decide) (gsown_cons (by decide) gsown_nil))) (fun _ _ _ _ _ => pif_nil) (fun _ _ _ _ _ => (pe_tupD (pa_cons (pv 1) (pa_cons (pv 0) pa_nil)))))) pa_nil)))), ?_⟩
    repeat' (walk_at "rd1")
    refine r_lcI hd (fun R hR => ?_) (fun _ => true) wpD (by rw [tmD_len]; omega) wpD_imm (fun y c Hf H2 N hc mvf hrd sm2 hy yes no => ?_) (fun q1 H1 sm1 hn1 hq1 => ?_)
    · repeat' (walk_at "rd1")
      exact hR
    · obtain ⟨x, hx, rfl⟩ := List.mem_map.mp hc
      refine r_unpP hy (fun w1 w2 f1 f2 => ?_)
      obtain rfl := f1.str_inv
      obtain rfl := f2.int_inv
      refine r_lct (fun hb => ?_) (fun hb => by cases hb)
      repeat' (walk_at "rd1")
      exact yes rfl _ _ (by walk_at "same") (by walk_at "dat")
    have hq1' : Dv H1 (.ref q1) (.list ((ts.map swp).map pairD)) := by
      have := hq1.dv
      rw [fil_all] at this
      unfold tmD at this
      rw [List.map_map] at this
      rw [List.map_map]; exact this
    repeat' (walk_at "rd1")
    refine r_sortP hq1' (by rw [List.length_map]; omega) (fun q2 H2 ks sm2 hn2 hp hs hq2 => ?_)
    repeat' (walk_at "rd1")
    exact q q2 H2 ks (sm1.trans sm2) (sm1.none hn2) hp hs hq2
theorem cal_allof (T : Txt K mg a) : Cal P w K mg base 1 a.f_Waits_all_of ["self"] [] (sp_allof a.C_Row) :=
  ⟨⟨_, _, ok_allof T, T.F_Waits_all_of.binds fun _ _ _ _ _ _ => .all fun us hl => match us, hl with | [_], _ => rfl, .nil⟩⟩
def sp_passon (C : Addr) : Sp := fun vs H Q _ => ∃ v d n ts t, vs = [v, .int t] ∧ WAt C H v d n ts ∧ ts.length < 60 ∧ ∀ q H', Same H H' → H q = none → LAt H' q (((ts.filter fun x => decide (x.2 ≤ t)).map (·.1)).map PyData.str) → Q (.ref q) H'
theorem u_passon {C : Addr} {H : Hp} {Q : VK} {E : XK} {v : V} {d : Addr} {n t : Int} {ts : List (Str × Int)} (h : WAt C H v d n ts) (hl : ts.length < 60) (q : ∀ q H', Same H H' → H q = none → LAt H' q (((ts.filter fun x => decide (x.2 ≤ t)).map (·.1)).map PyData.str) → Q (.ref q) H') : sp_passon C [v, .int t] H Q E := ⟨v, d, n, ts, t, rfl, h, hl, q⟩
theorem ok_passon (T : Txt K mg a) : FnOk P w K mg base CX0 1 a.f_Row_pass_on a.fd_Row_pass_on ["self", "to"] (sp_passon a.C_Row) := by
  have n1 := T.na_Row_now; have n2 := T.na_Row_times; have cl := T.cl_Row
  refine T.F_Row_pass_on.ok sc_Row_pass_on (fun vs H Q E h => ?_) (fun cdv A outer s H vs Q E hr h => ?_)
  · obtain ⟨_, _, _, _, _, rfl, _⟩ := h; rfl
  · obtain ⟨v, d, n, ts, t, rfl, hw, hl, q⟩ := h
    have hi := hw.ins; have hd := hw.dat
    refine ⟨_, (pss_one (ps_ret (pe_thaw (pe_lc (T := ["name", "time"]) (M := ["self", "to"]) (lcn (defScope s_Row_pass_on) ["self", "to"] rfl rfl (by decide +kernel)) rfl (pi_items (pe_fld (pv 0) rfl)) (fun _ _ _ _ _ => (pg_tupK (K := K) (n := 2) rfl rfl (pgs_cons (pg_name (i := 0) (show List.Nodup (["name", "time", "self", "to"] : List Str) by decide +kernel) rfl (Or.inl rfl)) (pgs_cons (pg_name (i := 1) (show List.Nodup (["name", "time", "self", "to"] : List Str) by decide +kernel) rfl (Or.inl rfl)) pgs_nil)))) (gown_tup (gsown_cons (by decide) (gsown_cons (by decide) gsown_nil))) (fun _ _ _ _ _ => (pif_one (pt_cmpR op_le (pv 1) (pv 3) (nomark _)))) (fun _ _ _ _ _ => (pv 0)))))), ?_⟩
    repeat' (walk_at "rd1")
    refine r_lcI hd (fun R hR => ?_) (leD t) (fun x => .str x.1) (by rw [tmD_len]; omega) (fun _ => rfl) (fun y c Hf H2 N hc mvf hrd sm2 hy yes no => ?_) (fun q1 H1 sm1 hn1 hq1 => ?_)
    · repeat' (walk_at "rd1")
      exact hR
    · obtain ⟨x, hx, rfl⟩ := List.mem_map.mp hc
      refine r_unpP hy (fun w1 w2 f1 f2 => ?_)
      obtain rfl := f1.str_inv
      obtain rfl := f2.int_inv
      repeat' (walk_at "rd1")
      refine r_lct (fun hb => ?_) (fun hb => no hb _ (Same.refl _))
      repeat' (walk_at "rd1")
      exact yes hb _ _ (Same.refl _) (.str _)
    have hq1' : LAt H1 q1 (((ts.filter fun x => decide (x.2 ≤ t)).map (·.1)).map PyData.str) := by
      unfold tmD at hq1
      rw [List.filter_map, List.map_map] at hq1
      rw [List.map_map]; exact hq1
    repeat' (walk_at "rd1")
    exact q q1 H1 sm1 hn1 hq1'
theorem cal_passon (T : Txt K mg a) : Cal P w K mg base 1 a.f_Row_pass_on ["self", "to"] [] (sp_passon a.C_Row) :=
  ⟨⟨_, _, ok_passon T, T.F_Row_pass_on.binds fun _ _ _ _ _ _ => .all fun us hl => match us, hl with | [_, _], _ => rfl, .nil⟩⟩
theorem tm_lkp {ts : List (Str × Int)} (h : (ts.map (·.1)).Nodup) {x : Str × Int} (hx : x ∈ ts) : lkp (tmD ts) x.1 = some (.int x.2) := by
  unfold lkp tmD
  rw [List.find?_map]
  induction ts with
  | nil => cases hx
  | cons y r ih =>
    rw [List.map_cons, List.nodup_cons] at h
    rw [List.find?_cons]
    by_cases e : y.1 = x.1
    · simp only [Function.comp, e, decide_true]
      rcases List.mem_cons.mp hx with rfl | hx'
      · rfl
      · exact absurd (List.mem_map_of_mem (f := (·.1)) hx') (e ▸ h.1)
    · simp only [Function.comp, e, decide_false]
      rcases List.mem_cons.mp hx with rfl | hx'
      · exact absurd rfl e
      · exact ih h.2 hx'
theorem nd_take {α β : Type} {f : α → β} {l : List α} {j : Nat} {c : α} (h : (l.map f).Nodup) (hc : l[j]? = some c) : f c ∉ (l.take j).map f := by
  intro hm
  obtain ⟨d, hd, e⟩ := List.mem_map.mp hm
  obtain ⟨i, hi, rfl⟩ := List.getElem_of_mem hd
  have hij : i < j := by rw [List.length_take] at hi; omega
  have hjl : j < l.length := (List.getElem?_eq_some_iff.mp hc).1
  rw [List.Nodup, List.pairwise_map] at h
  have := List.pairwise_iff_getElem.mp h i j (by omega) hjl hij
  rw [List.getElem_take] at e
  have hc' : l[j] = c := Option.some.inj ((List.getElem?_eq_getElem hjl).symm.trans hc)
  rw [hc'] at this
  exact this e
theorem take_snoc {α : Type} {l : List α} {j : Nat} {c : α} (h : l[j]? = some c) : l.take (j + 1) = l.take j ++ [c] := by
  rw [List.take_add_one, h]; rfl
def sp_due (C cP : Addr) : Sp := fun vs H Q E => ∃ p d n ts t, vs = [.ref p, .int t] ∧ WAt C H (.ref p) d n ts ∧ ts.length < 60 ∧ (ts.map (·.1)).Nodup ∧ (t < n → E (.ref cP) none H) ∧ (n ≤ t → ∀ q H' ks, Mv [p, d] H H' → H q = none → ks.Perm ((ts.filter fun x => decide (x.2 ≤ t)).map swp) → Srt ks → LAt H' q (ks.map pairD) → WAt C H' (.ref p) d t (ts.filter fun x => !decide (x.2 ≤ t)) → Q (.ref q) H')
theorem ok_due (T : Txt K mg a) : FnOk P w K mg base (CXD P w) 3 a.f_Waits_due a.fd_Waits_due ["self", "to"] (sp_due a.C_Row a.C_Past) := by
  have n1 := T.na_Row_now; have n2 := T.na_Row_times; have cl := T.cl_Row
  have m_pass_on := T.m_Row_pass_on
  have c_pass_on := cal_passon (P := P) (w := w) (base := base) T
  refine T.F_Waits_due.okD sc_Waits_due (fun vs H Q E h => ?_) (fun cdv A outer s H vs Q E hr h => ?_)
  · obtain ⟨_, _, _, _, _, rfl, _⟩ := h; rfl
  · obtain ⟨p, d, n, ts, t, rfl, hw, hl, hnd, qP, q⟩ := h
    have hi := hw.ins; have hd := hw.dat
    refine ⟨_, (pss_cut (ps_if (pt_cmpR op_lt (pv 1) (pe_fld (pv 0) rfl) (nomark _))
        (pss_one (ps_raiseP raiseD rfl (pa_cons pe_str pa_nil) rfl T.mg_Past T.x_Past rfl))
        pss_nil)
      (pss_cut (ps_set (i := 2) sc_Waits_due.nd rfl (Or.inl rfl) (pe_callB call_sortP rfl T.no_sorted PyProof.Rows.boot_sorted (pa_cons (pe_lc (T := ["name"]) (M := ["self", "to", "told", "time", "04"]) (lcn (defScope s_Waits_due) ["self", "to", "told", "time", "name"] rfl rfl (by decide +kernel)) rfl (pi_list (pn_meth (pv 0) cl m_pass_on c_pass_on (hr.mono (by decide)) (pa_cons (pv 1) pa_nil))) (fun _ _ _ _ _ => (pg_name (i := 0) (show List.Nodup (["name", "self", "to", "told", "time", "04"] : List Str) by decide +kernel) rfl (Or.inl rfl))) (gown_name (by decide)) (fun _ _ _ _ _ => pif_nil) (fun _ _ _ _ _ => (pe_tupD (pa_cons (pe_dget (hu_of hr) (pe_fldK (K := K) rfl (pv 1) rfl) (pv 0) (fun _ _ => rfl)) (pa_cons (pv 0) pa_nil))))) pa_nil)))
      (pss_cut (ps_fld (pv 0) (pv 1) rfl)
      (pss_cut (PS.nox (ps_for PassesOwn.never rfl (pi_list (pv 2)) (pg_tup (n := 2) rfl (pgs_cons (pg_name (i := 3) sc_Waits_due.nd rfl (Or.inl rfl)) (pgs_cons (pg_name (i := 4) sc_Waits_due.nd rfl (Or.inl rfl)) pgs_nil)))
        (pss_one (ps_expr (pe_bm PySem.F.plainAttrs_dict PySem.F.slot_dict_pop PySem.F.type_dict_pop mt_dpop (pe_fld (pv 0) rfl) (pa_cons (pv 4) pa_nil))))))
      (pss_one (ps_ret (pv 2))))))), ?_⟩
    repeat' (walk_at "rd1")
    · rename_i hb
      exact qP hb
    rename_i hnt
    replace q := q (by omega)
    refine u_passon hw hl (fun q0 H1 sm1 hn1 hq0 => ?_)
    have hw1 := hw.keeps sm1
    have hd1 := hw1.dat
    have hi1 := hw1.ins
    have hfl : (ts.filter fun x => decide (x.2 ≤ t)).length ≤ ts.length := List.length_filter_le _ _
    refine r_lc (cs := ts.filter fun x => decide (x.2 ≤ t)) (gd := fun x => .str x.1) (fun _ => true) (fun x => pairD (swp x)) (by have := hq0.dv; rwa [List.map_map] at this) (by omega) (fun _ => rfl) (fun y x H2 N hx sm2 hy yes no => ?_) (fun q1 H2 sm2 hn2 hq1 => ?_)
    · have hlk := tm_lkp hnd (List.mem_filter.mp hx).1
      obtain rfl := hy.str_inv
      have hi2 := hi1.keeps sm2
      have hd2 := hd1.keeps sm2
      repeat' (walk_at "rd1")
      refine r_lct (fun hb => ?_) (fun hb => by cases hb)
      repeat' (walk_at "rd1")
      exact yes rfl _ _ (by walk_at "same") (by walk_at "dat")
    rw [fil_all] at hq1
    have hq1' : Dv H2 (.ref q1) (.list (((ts.filter fun x => decide (x.2 ≤ t)).map swp).map pairD)) := by
      have := hq1.dv
      rw [List.map_map]; exact this
    repeat' (walk_at "rd1")
    refine r_sortP hq1' (by rw [List.length_map]; omega) (fun q2 H3 ks sm3 hn3 hp hs hq2 => ?_)
    repeat' (walk_at "rd1")
    obtain ⟨p', dx, e, hins⟩ := (hi1.keeps sm2).keeps sm3
    cases e
    have hd3 := (hd1.keeps sm2).keeps sm3
    have hpd : d ≠ p := by
      obtain ⟨kvs, e2, _⟩ := hd3
      exact ne_of e2 hins (by intro y; cases y)
    have hpq : q2 ≠ p := by
      obtain ⟨xs, e2, _⟩ := hq2
      exact ne_of e2 hins (by intro y; cases y)
    have hqd : q2 ≠ d := by
      obtain ⟨xs, e2, _⟩ := hq2
      obtain ⟨kvs, e3, _⟩ := hd3
      exact ne_of e2 e3 (by intro y; cases y)
    repeat' (walk_at "rd1")
    have mv4 : Mv [p] H3 (upd H3 p (.ins a.C_Row dx [("now", .int t), ("times", .ref d)])) := .of_upd hins (by intro _ z; cases z)
    have hi4 : Ins (upd H3 p (.ins a.C_Row dx [("now", .int t), ("times", .ref d)])) (.ref p) a.C_Row [("now", .int t), ("times", .ref d)] := ⟨p, dx, rfl, upd_same⟩
    generalize upd H3 p (.ins a.C_Row dx [("now", .int t), ("times", .ref d)]) = H4 at *
    have hd4 : DAt H4 d (tmD ts) := hd3.mv mv4 (by simpa using hpd)
    have hq4 : LAt H4 q2 (ks.map pairD) := hq2.mv mv4 (by simpa using hpq)
    have hkn : (ks.map (·.2)).Nodup := by
      have h1 : (ks.map (·.2)).Perm (((ts.filter fun x => decide (x.2 ≤ t)).map swp).map (·.2)) := hp.map _
      refine h1.nodup_iff.mpr ?_
      rw [List.map_map]
      exact hnd.sublist (List.filter_sublist.map _)
    have hkm : ∀ k ∈ ks, ∃ x ∈ ts, x.2 ≤ t ∧ k = swp x := fun k hk => by
      obtain ⟨x, hx, rfl⟩ := List.mem_map.mp (hp.mem_iff.mp hk)
      exact ⟨x, (List.mem_filter.mp hx).1, of_decide_eq_true (List.mem_filter.mp hx).2, rfl⟩
    refine forDB (Hb := H4) (cs := ks) (gd := pairD) hq4.dv (fun j σ' H' => ∃ z3 z4, σ' = [some (.ref p), some (.int t), some (.ref q2), z3, z4] ∧ Mv [d] H4 H' ∧ DAt H' d (tmD (ts.filter fun x => !((ks.take j).map (·.2)).contains x.1))) ⟨_, _, rfl, Mv.refl, by show DAt H4 d (tmD (ts.filter fun _ => true)); rw [fil_all]; exact hd4⟩ (fun i σ' H' _ ⟨_, _, _, mv, _⟩ a' xs e hx => by cases e; exact mv.sq (by simpa using hqd) hx) ?_ ?_
    · rintro j k x σ' H' hk ⟨z3, z4, rfl, mv5, hd5⟩ hdx _
      have hx : Dv H' x (.tuple [.int k.1, .str k.2]) := hdx rfl mv5.tp
      refine r_unpP hx (fun w1 w2 f1 f2 => ?_)
      obtain rfl := f1.int_inv
      obtain rfl := f2.str_inv
      have hi5 : Ins H' (.ref p) a.C_Row [("now", .int t), ("times", .ref d)] := ins_mvW hi4 hd4 mv5
      obtain ⟨y, hy, hyt, rfl⟩ := hkm k (List.mem_of_getElem? hk)
      have hlk : lkp (tmD (ts.filter fun x => !((ks.take j).map (·.2)).contains x.1)) (swp y).2 = some (.int y.2) := by
        refine tm_lkp (x := y) (hnd.sublist (List.filter_sublist.map _)) (List.mem_filter.mpr ⟨hy, ?_⟩)
        have := nd_take hkn hk
        rw [Bool.not_eq_true', ← Bool.not_eq_true, List.contains_iff_mem]
        exact this
      repeat' (walk_at "rd1")
      refine r_tyD hd5 ?_
      repeat' (walk_at "rd1")
      refine r_dpop hd5 hlk (fun v6 H6 mv6 hd6 => ?_)
      repeat' (walk_at "rd1")
      refine ⟨_, _, rfl, mv5.trans mv6, ?_⟩
      have e : tmD (ts.filter fun x => !((ks.take (j + 1)).map (·.2)).contains x.1) = dropD (tmD (ts.filter fun x => !((ks.take j).map (·.2)).contains x.1)) (swp y).2 := by
        unfold dropD tmD
        rw [List.filter_map, List.filter_filter]
        congr 1
        refine List.filter_congr fun x hx => ?_
        rw [take_snoc hk, List.map_append, Bool.eq_iff_iff]
        simp
        exact and_comm
      rw [e]; exact hd6
    · rintro σ' H' ⟨z3, z4, rfl, mv5, hd5⟩
      rw [List.take_length] at hd5
      have e : (ts.filter fun x => !(ks.map (·.2)).contains x.1) = ts.filter fun x => !decide (x.2 ≤ t) := by
        refine List.filter_congr fun x hx => ?_
        congr 1
        rw [Bool.eq_iff_iff, List.contains_iff_mem, decide_eq_true_eq]
        constructor
        · intro hm
          obtain ⟨k, hk, e⟩ := List.mem_map.mp hm
          obtain ⟨y, hy, hyt, rfl⟩ := hkm k hk
          have h1 := tm_lkp hnd hy
          have h2 := tm_lkp hnd hx
          have e' : y.1 = x.1 := e
          rw [e', h2] at h1
          have h3 : x.2 = y.2 := by
            injection h1 with h1
            injection h1
          omega
        · intro ht
          exact List.mem_map.mpr ⟨swp x, hp.mem_iff.mpr (List.mem_map_of_mem (List.mem_filter.mpr ⟨hx, decide_eq_true ht⟩)), rfl⟩
      rw [e] at hd5
      repeat' (walk_at "rd1")
      refine q q2 H' ks ?_ ((sm1.trans sm2).none hn3) hp hs (hq4.mv mv5 (by simpa using hqd)) ⟨ins_mvW hi4 hd4 mv5, hd5⟩
      refine Mv.step (Mv.step (((sm1.trans sm2).trans sm3).mv (S := [p, d])) mv4 fun b hb => .inl ?_) mv5 fun b hb => .inl (List.mem_cons_of_mem _ hb)
      have : b = p := by simpa using hb
      rw [this]; exact List.mem_cons_self
theorem cal_due (T : Txt K mg a) : CalD P w K mg base 3 a.f_Waits_due ["self", "to"] [] (sp_due a.C_Row a.C_Past) :=
  ⟨⟨_, _, ok_due T, T.F_Waits_due.binds fun _ _ _ _ _ _ => .all fun us hl => match us, hl with | [_, _], _ => rfl, .nil⟩⟩

def Ltr (s : Str) : Prop := ∀ c ∈ s.cps.toList, c < 1114112
theorem cps_app (x y : Str) : (x ++ y).cps.toList = x.cps.toList ++ y.cps.toList := by show (x.cps ++ y.cps).toList = _; simp
theorem Ltr.app {s t : Str} (h : Ltr s) (k : Ltr t) : Ltr (s ++ t) := by
  intro c hc
  rw [cps_app] at hc
  rcases List.mem_append.mp hc with hc | hc
  · exact h c hc
  · exact k c hc
abbrev abcS : Str := Str.ofString "abcdefghijklmnopqrstuvwxyz"
theorem abc_len : (Str.ofString "abcdefghijklmnopqrstuvwxyz").length = 26 := by decide +kernel
theorem abc_at : ∀ i : Fin 26, abcS.cps.toList[i.val]? = some (97 + i.val) := by decide +kernel
theorem one_len (c : Nat) : (Str.mk #[c]).length = 1 := rfl
theorem r_ixAbc {H : Hp} {Q : VK} {i : Int} (h0 : 0 ≤ i) (h1 : i < 26) (h : Q (.str ⟨#[97 + i.toNat]⟩) H) : rIxK K (.str (Str.ofString "abcdefghijklmnopqrstuvwxyz")) (.int i) H Q :=
  r_ixLx (by rw [abc_len]; decide) h0 (by rw [abc_len]; omega) fun c hc => by
    have e := abc_at ⟨i.toNat, by omega⟩
    have e2 : some c = some (97 + i.toNat) := hc.symm.trans e
    rw [Option.some.inj e2]; exact h
def NmS (s : Str) : Prop := s.length ≤ 200 ∧ Ltr s
theorem k_ltr {t : Str} (h : ∀ c ∈ t.cps.toList, c ∈ (Str.cps "o").toList) : Ltr t := fun c hc => by
  have := h c hc
  have e : (Str.cps "o").toList = [111] := by decide +kernel
  rw [e] at this
  simp at this
  omega
theorem one_ltr {c : Nat} (h : c < 200) : Ltr ⟨#[c]⟩ := fun d hd => by
  have : d = c := by simpa using hd
  omega
theorem NmS.t {s : Str} (h : NmS s) : NmT s := ⟨by have := h.1; omega, h.2⟩
def sp_mixed : Sp := fun vs H Q _ => ∃ c k, vs = [.int c, .int k] ∧ 0 ≤ k ∧ k ≤ 63 ∧ ∀ m, 0 ≤ m → m < 2147483647 → Q (.int m) H
theorem u_mixed {H : Hp} {Q : VK} {E : XK} {c k : Int} (h0 : 0 ≤ k) (h1 : k ≤ 63) (q : ∀ m, 0 ≤ m → m < 2147483647 → Q (.int m) H) : sp_mixed [.int c, .int k] H Q E := ⟨c, k, rfl, h0, h1, q⟩
theorem ok_mixed (T : Txt K mg a) : FnOk P w K mg base CX0 1 a.f__law_mixed a.fd__law_mixed ["_law_cell", "_law_k"] sp_mixed := by
  refine T.F__law_mixed.ok sc__law_mixed (fun vs H Q E h => ?_) (fun cdv A outer s H vs Q E hr h => ?_)
  · obtain ⟨_, _, rfl, _⟩ := h; rfl
  · obtain ⟨c, k, rfl, h0, h1, q⟩ := h
    refine ⟨_, (pss_cut (ps_set (i := 2) sc__law_mixed.nd rfl (Or.inl rfl) (pe_op op_modP (pe_op op_mul (pe_op op_add (pe_op op_add (pv 0) (pe_op op_mulB pe_int (pv 1))) pe_int) pe_int) pe_int))
      (pss_one (ps_ret (pe_op op_modP (pe_op op_mulB (pv 2) (pe_op op_add (pe_op op_fdivB (pv 2) pe_int) pe_int)) pe_int)))), ?_⟩
    repeat' (walk_at "rd1")
    refine r_i (.inr ⟨by decide, by decide⟩) ?_
    repeat' (walk_at "rd1")
    rename_i b1 b2
    exact q _ b1 b2
theorem cal_mixed (T : Txt K mg a) : Cal P w K mg base 1 a.f__law_mixed ["_law_cell", "_law_k"] [] sp_mixed :=
  ⟨⟨_, _, ok_mixed T, T.F__law_mixed.binds fun _ _ _ _ _ _ => .all fun us hl => match us, hl with | [_, _], _ => rfl, .nil⟩⟩
local macro_rules | `(tactic| walk_at "rd1") => `(tactic| first
  | ((with_reducible refine' r_ixAbc ?e1 ?e2 ?_); (case e1 => omega); (case e2 => omega))
  | fail)
set_option hygiene false in
local macro_rules | `(tactic| walk_at "len") => `(tactic| first
  | (simp only [Str.length_append, one_len] at *; omega)
  | fail)
def sp_name : Sp := fun vs H Q _ => ∃ m st, vs = [.int m, .int st] ∧ ∀ x, NmS x → Q (.str x) H
theorem u_name {H : Hp} {Q : VK} {E : XK} {m st : Int} (q : ∀ x, NmS x → Q (.str x) H) : sp_name [.int m, .int st] H Q E := ⟨m, st, rfl, q⟩
theorem ok_name (T : Txt K mg a) : FnOk P w K mg base CX0 1 a.f__law_name a.fd__law_name ["_law_number", "_law_style"] sp_name := by
  refine T.F__law_name.ok sc__law_name (fun vs H Q E h => ?_) (fun cdv A outer s H vs Q E hr h => ?_)
  · obtain ⟨_, _, rfl, _⟩ := h; rfl
  · obtain ⟨m, st, rfl, q⟩ := h
    refine ⟨_, (pss_cut (ps_set (i := 2) sc__law_name.nd rfl (Or.inl rfl) pe_str)
      (pss_cut (ps_if (pt_cmpR (op_eqA hr.hu8) (pe_op op_modP (pv 1) pe_int) pe_int (nomark _))
        (pss_one (ps_ret (pe_op op_addS (pe_op op_mulL pe_str (pe_op op_modP (pe_op op_fdivB (pv 0) pe_int) pe_int)) (pe_ix ix_K (pv 2) (pe_op op_modP (pv 0) pe_int) (fun _ _ => rfl)))))
        pss_nil)
      (pss_cut (ps_set (i := 3) sc__law_name.nd rfl (Or.inl rfl) (pe_op op_add pe_int (pe_op op_modP (pe_op op_fdivB (pv 1) pe_int) pe_int)))
      (pss_cut (ps_set (i := 4) sc__law_name.nd rfl (Or.inl rfl) (pe_op op_modP (pe_op op_fdivB (pv 1) pe_int) (pv 3)))
      (pss_one (ps_ret (pe_op op_addS (pe_op op_addS (pe_op op_mulL pe_str (pv 4)) (pe_ix ix_K (pv 2) (pe_op op_modP (pv 0) pe_int) (fun _ _ => rfl))) (pe_op op_mulL pe_str (pe_op op_sub (pe_op op_sub (pv 3) pe_int) (pv 4)))))))))), ?_⟩
    repeat' (walk_at "rd1")
    · rename_i o l1 h1 _ _
      exact q _ ⟨by simp only [Str.length_append, one_len]; omega, (k_ltr h1).app (one_ltr (by omega))⟩
    · rename_i o1 l1 h1 _ _ o2 l2 h2
      exact q _ ⟨by simp only [Str.length_append, one_len]; omega, ((k_ltr h1).app (one_ltr (by omega))).app (k_ltr h2)⟩
theorem cal_name (T : Txt K mg a) : Cal P w K mg base 1 a.f__law_name ["_law_number", "_law_style"] [] sp_name :=
  ⟨⟨_, _, ok_name T, T.F__law_name.binds fun _ _ _ _ _ _ => .all fun us hl => match us, hl with | [_, _], _ => rfl, .nil⟩⟩
def sp_later : Sp := fun vs H Q _ => ∃ c m, vs = [.int c, .int m] ∧ ∀ r H', Same H H' → Q (.int r) H'
theorem u_later {H : Hp} {Q : VK} {E : XK} {c m : Int} (q : ∀ r H', Same H H' → Q (.int r) H') : sp_later [.int c, .int m] H Q E := ⟨c, m, rfl, q⟩
theorem ok_later (T : Txt K mg a) : FnOk P w K mg base CX0 1 a.f__law_later a.fd__law_later ["_law_cell", "_law_number"] sp_later := by
  refine T.F__law_later.ok sc__law_later (fun vs H Q E h => ?_) (fun cdv A outer s H vs Q E hr h => ?_)
  · obtain ⟨_, _, rfl, _⟩ := h; rfl
  · obtain ⟨c, m, rfl, q⟩ := h
    refine ⟨_, (pss_one (ps_ret (pe_op op_modP (pe_op op_fdivB (pv 0) pe_int) (pe_ix ix_K (pe_lstD (pa_cons pe_int (pa_cons pe_int (pa_cons pe_int (pa_cons (pe_op op_pow pe_int pe_int) (pa_cons (pe_op op_pow pe_int pe_int) pa_nil)))))) (pe_op op_modP (pv 1) pe_int) (fun _ _ => rfl))))), ?_⟩
    repeat' (walk_at "rd1")
    rename_i pl H1 sm _ hp b0 b1
    refine r_ixN (ns := [4, 30, 500, 10 ^ 9, 10 ^ 37]) hp.dv b0 (by simp only [List.length_cons, List.length_nil]; omega) (fun sp hsp => ?_)
    have hsp0 : 0 < sp := by
      simp only [List.mem_cons, List.not_mem_nil, or_false] at hsp
      omega
    repeat' (walk_at "rd1")
    exact q _ _ sm
theorem cal_later (T : Txt K mg a) : Cal P w K mg base 1 a.f__law_later ["_law_cell", "_law_number"] [] sp_later :=
  ⟨⟨_, _, ok_later T, T.F__law_later.binds fun _ _ _ _ _ _ => .all fun us hl => match us, hl with | [_, _], _ => rfl, .nil⟩⟩
theorem srt_unique : ∀ {xs ys : List (Int × Str)}, xs.Perm ys → Srt xs → Srt ys → xs = ys
  | [], _, hp, _, _ => List.Perm.nil_eq hp
  | x :: xs, [], hp, _, _ => by have := hp.length_eq; simp at this
  | x :: xs, y :: ys, hp, h1, h2 => by
    have hx := List.pairwise_cons.mp h1
    have hy := List.pairwise_cons.mp h2
    have hxy : x = y := by
      have m1 : y ∈ x :: xs := hp.mem_iff.mpr List.mem_cons_self
      have m2 : x ∈ y :: ys := hp.mem_iff.mp List.mem_cons_self
      rcases List.mem_cons.mp m1 with e | m1'
      · exact e.symm
      rcases List.mem_cons.mp m2 with e | m2'
      · exact e
      exact ltIS_tot (hy.1 x m2') (hx.1 y m1')
    subst hxy
    rw [srt_unique (List.Perm.cons_inv hp) hx.2 hy.2]
theorem nm_lay {s : Str} (h : NmS s) : PyData.canLay0 (.str s) = true := by
  show s.cps.all (· < 0x110000) = true
  rw [Array.all_eq_true']
  intro c hc
  exact decide_eq_true (h.2 c (by simpa using hc))
theorem pr_lay : ∀ {ks : List (Int × Str)}, (∀ k ∈ ks, NmS k.2) → PyData.canLayAll0 (ks.map pairD) = true
  | [], _ => rfl
  | c :: r, h => by
    have h1 := nm_lay (h c List.mem_cons_self)
    simp only [List.map_cons, PyData.canLayAll0, pairD, PyData.canLay0, Bool.and_true, Bool.true_and] at h1 ⊢
    rw [h1, Bool.true_and]
    exact pr_lay fun y hy => h y (List.mem_cons_of_mem _ hy)
theorem pr_dep : ∀ ks : List (Int × Str), PyData.depthAll (ks.map pairD) ≤ 3
  | [] => by simp [PyData.depthAll]
  | _ :: r => by have := pr_dep r; simp only [List.map_cons, PyData.depthAll, pairD, PyData.depth]; omega
theorem pr_eqv {ks : List (Int × Str)} (h : ∀ k ∈ ks, NmS k.2) : PyData.eqv (.list (ks.map pairD)) (.list (ks.map pairD)) = true := by
  show PyData.eqvAll (ks.map pairD) (ks.map pairD) = true
  induction ks with
  | nil => rfl
  | cons k r ih =>
    rw [List.map_cons, PyData.eqvAll, ih fun y hy => h y (List.mem_cons_of_mem _ hy)]
    simp [pairD, PyData.eqv, PyData.eqvAll]
theorem r_eqPP {H : Hp} {Q : VK} {f : Bool → Bool} {x y : V} {ks : List (Int × Str)} (h1 : Dv H x (.list (ks.map pairD))) (h2 : Dv H y (.list (ks.map pairD))) (hs : ∀ k ∈ ks, NmS k.2) (h : Q (.bl (f true)) H) : rEqA K f x y H Q := by
  refine r_eqD h1 h2 (by rw [PyData.canLay0]; exact pr_lay hs) (by rw [PyData.canLay0]; exact pr_lay hs) ?_ (by rw [pr_eqv hs]; exact h)
  have := pr_dep ks
  rw [PyData.depth]
  omega
theorem r_eqPN {H : Hp} {Q : VK} {f : Bool → Bool} {x y : V} {ks : List (Int × Str)} (h1 : Dv H x (.list (ks.map pairD))) (h2 : Dv H y (.list [])) (hs : ∀ k ∈ ks, NmS k.2) (h : Q (.bl (f ks.isEmpty)) H) : rEqA K f x y H Q := by
  have e : PyData.eqv (.list (ks.map pairD)) (.list []) = ks.isEmpty := by cases ks <;> rfl
  refine r_eqD h1 h2 (by rw [PyData.canLay0]; exact pr_lay hs) rfl ?_ (by rw [e]; exact h)
  have := pr_dep ks
  rw [PyData.depth]
  omega
def sp_whole : Sp := fun vs H Q _ => ∃ v d, vs = [v] ∧ Dv H v d ∧ Q (.bl (isInt d && !isBool d)) H
theorem u_whole {H : Hp} {Q : VK} {E : XK} {v : V} {d : PyData} (h : Dv H v d) (q : Q (.bl (isInt d && !isBool d)) H) : sp_whole [v] H Q E := ⟨v, d, rfl, h, q⟩
theorem ok_whole (T : Txt K mg a) : FnOk P w K mg base CX0 1 a.f__law_whole a.fd__law_whole ["_law_found"] sp_whole := by
  refine T.F__law_whole.ok sc__law_whole (fun vs H Q E h => ?_) (fun cdv A outer s H vs Q E hr h => ?_)
  · obtain ⟨_, _, rfl, _⟩ := h; rfl
  · obtain ⟨v, d, rfl, hd, k⟩ := h
    refine ⟨_, (pss_one (ps_ret (pe_and (pe_callB call_isi rfl T.no_isinstance PyProof.Rows.boot_isinstance (pa_cons (pv 0) (pa_cons (pe_bltn (v := .ty "int") rfl T.no_int PyProof.Rows.boot_int rfl) pa_nil))) (pe_one (pe_not (pe_callB call_isi rfl T.no_isinstance PyProof.Rows.boot_isinstance (pa_cons (pv 0) (pa_cons (pe_bltn (v := .ty "bool") rfl T.no_bool PyProof.Rows.boot_bool rfl) pa_nil)))))))), ?_⟩
    repeat' (walk_at "rd1")
    · refine r_rt ?_; cases d <;> simp_all [isInt, isBool]
    · refine r_rt ?_; cases d <;> simp_all [isInt, isBool]
theorem cal_whole (T : Txt K mg a) : Cal P w K mg base 1 a.f__law_whole ["_law_found"] [] sp_whole :=
  ⟨⟨_, _, ok_whole T, T.F__law_whole.binds fun _ _ _ _ _ _ => .all fun us hl => match us, hl with | [_], _ => rfl, .nil⟩⟩
local macro_rules | `(tactic| walk_at "use") => `(tactic| first
  | ((with_reducible refine' u_whole ?e ?_); case e => walk_at "dat")
  | fail)
def sp_pairs : Sp := fun vs H Q _ => ∃ (v u : V) (ks : List (Int × Str)), vs = [v, u] ∧ Dv H v (.list (ks.map pairD)) ∧ Dv H u (.list (ks.map pairD)) ∧ (∀ k ∈ ks, NmS k.2) ∧ ∀ H', Same H H' → Q (.bl true) H'
theorem u_pairs {H : Hp} {Q : VK} {E : XK} {v u : V} {ks : List (Int × Str)} (h1 : Dv H v (.list (ks.map pairD))) (h2 : Dv H u (.list (ks.map pairD))) (hs : ∀ k ∈ ks, NmS k.2) (q : ∀ H', Same H H' → Q (.bl true) H') : sp_pairs [v, u] H Q E := ⟨v, u, ks, rfl, h1, h2, hs, q⟩
theorem ok_pairs (T : Txt K mg a) : FnOk P w K mg base CX0 2 a.f__law_pairs_are a.fd__law_pairs_are ["_law_found", "_law_due_here"] sp_pairs := by
  have c__law_whole := cal_whole (P := P) (w := w) (base := base) T
  refine T.F__law_pairs_are.ok sc__law_pairs_are (fun vs H Q E h => ?_) (fun cdv A outer s H vs Q E hr h => ?_)
  · obtain ⟨_, _, _, rfl, _⟩ := h; rfl
  · obtain ⟨v, u, ks, rfl, hv, hu, hs, q⟩ := h
    refine ⟨_, (pss_cut (ps_if (PW.pt (pw_or (pt_not (pt_truth (pe_callB call_isi rfl T.no_isinstance PyProof.Rows.boot_isinstance (pa_cons (pv 0) (pa_cons (pe_bltn (v := .ty "list") rfl T.no_list PyProof.Rows.boot_list rfl) pa_nil))) (fun _ => rfl))) (pw_or1 (pt_cmpR (op_neA hr.hu8) (pe_callB call_lenK rfl T.no_len PySem.boot_len (pa_cons (pv 0) pa_nil)) (pe_callB call_lenK rfl T.no_len PySem.boot_len (pa_cons (pv 1) pa_nil)) (nomark _)))))
        (pss_one (ps_ret pe_bl))
        pss_nil)
      (pss_cut (ps_for PassesOwn.never rfl (pi_list (pv 0)) (pg_name (i := 2) sc__law_pairs_are.nd rfl (Or.inl rfl))
        (pss_cut (ps_if (PW.pt (pw_or (pt_not (pt_truth (pe_callB call_isi rfl T.no_isinstance PyProof.Rows.boot_isinstance (pa_cons (pv 2) (pa_cons (pe_bltn (v := .ty "tuple") rfl T.no_tuple PyProof.Rows.boot_tuple rfl) pa_nil))) (fun _ => rfl))) (pw_or1 (pt_cmpR (op_neA hr.hu8) (pe_callB call_lenK rfl T.no_len PySem.boot_len (pa_cons (pv 2) pa_nil)) pe_int (nomark _)))))
          (pss_one (ps_ret pe_bl))
          pss_nil)
        (pss_one (ps_if (PW.pt (pw_or (pt_not (pt_truth (pn_call c__law_whole (hr.mono (by decide)) rfl T.mg__law_whole T.kp__law_whole (pa_cons (pe_ix ix_K (pv 2) pe_int (fun _ _ => rfl)) pa_nil)) (fun _ => rfl))) (pw_or1 (pt_not (pt_truth (pe_callB call_isi rfl T.no_isinstance PyProof.Rows.boot_isinstance (pa_cons (pe_ix ix_K (pv 2) pe_int (fun _ _ => rfl)) (pa_cons (pe_bltn (v := .ty "str") rfl T.no_str PyProof.Rows.boot_str rfl) pa_nil))) (fun _ => rfl))))))
          (pss_one (ps_ret pe_bl))
          pss_nil))))
      (pss_one (ps_ret (pe_cmpR (op_eqA hr.hu8) (pv 0) (pv 1) (nomark _)))))), ?_⟩
    repeat' (walk_at "rd1")
    refine forDB (Hb := H) (cs := ks) (gd := pairD) hv (fun j σ' H' => H = H' ∧ ∃ z, σ' = [some v, some u, z]) ⟨rfl, _, rfl⟩ (fun i σ' H' _ ⟨e, _⟩ a' xs _ hx => e ▸ hx) ?_ ?_
    · rintro j k x σ' H' hk ⟨rfl, z, rfl⟩ _ hd1
      have hx : Dv H x (.tuple [.int k.1, .str k.2]) := hd1 (Same.refl _)
      repeat' (walk_at "rd1")
      exact ⟨rfl, _, rfl⟩
    · rintro σ' H' ⟨rfl, z, rfl⟩
      repeat' (walk_at "rd1")
      refine r_eqPP hv hu hs ?_
      exact q _ (Same.refl _)
theorem cal_pairs (T : Txt K mg a) : Cal P w K mg base 2 a.f__law_pairs_are ["_law_found", "_law_due_here"] [] sp_pairs :=
  ⟨⟨_, _, ok_pairs T, T.F__law_pairs_are.binds fun _ _ _ _ _ _ => .all fun us hl => match us, hl with | [_, _], _ => rfl, .nil⟩⟩
inductive Wk | put | take | due | time | least
def wkS : Wk → Str
  | .put => "put" | .take => "take" | .due => "due" | .time => "time_of" | .least => "least"
def Wd (w : Str) : Prop := ∃ k, w = wkS k
def wdD (d : PyData) : Bool := match d with
  | .str x => decide (x = "put") || decide (x = "take") || decide (x = "due") || decide (x = "time_of") || decide (x = "least")
  | _ => false
theorem r_ixWd {H : Hp} {Q : VK} {v : V} {ds : List PyData} {i : Int} (hp : Dv H v (.list ds)) (hall : ds.all wdD = true) (h0 : 0 ≤ i) (h1 : i < ds.length) (h : ∀ x, Wd x → Q (.str x) H) : rIxK K v (.int i) H Q := by
  obtain ⟨m, rfl⟩ := Int.eq_ofNat_of_zero_le h0
  have hi : m < ds.length := by omega
  have hb : wdD ds[m] = true := List.all_eq_true.mp hall _ (List.getElem_mem hi)
  obtain ⟨x, hx, ha⟩ : ∃ x, ds[m] = .str x ∧ Wd x := by
    cases e : ds[m] with
    | str x =>
      rw [e] at hb
      refine ⟨x, rfl, ?_⟩
      simp only [wdD, Bool.or_eq_true, decide_eq_true_eq, or_assoc] at hb
      rcases hb with h | h | h | h | h
      · exact ⟨.put, h⟩
      · exact ⟨.take, h⟩
      · exact ⟨.due, h⟩
      · exact ⟨.time, h⟩
      · exact ⟨.least, h⟩
    | _ => rw [e] at hb; cases hb
  exact r_ixD (.inr hp) (atI_nat (by rw [List.getElem?_eq_getElem hi, hx])) (got_str (h x ha))
theorem s_lay : ∀ {ks : List Str}, (∀ k ∈ ks, NmS k) → PyData.canLayAll0 (ks.map PyData.str) = true
  | [], _ => rfl
  | c :: r, h => by
    have h1 := nm_lay (h c List.mem_cons_self)
    rw [List.map_cons, PyData.canLayAll0, h1, Bool.true_and]
    exact s_lay fun y hy => h y (List.mem_cons_of_mem _ hy)
theorem s_dep : ∀ ks : List Str, PyData.depthAll (ks.map PyData.str) ≤ 2
  | [] => by simp [PyData.depthAll]
  | _ :: r => by have := s_dep r; simp only [List.map_cons, PyData.depthAll, PyData.depth]; omega
theorem r_eqSN {H : Hp} {Q : VK} {f : Bool → Bool} {x y : V} {ks : List Str} (h1 : Dv H x (.list (ks.map PyData.str))) (h2 : Dv H y (.list [])) (hs : ∀ k ∈ ks, NmS k) (h : Q (.bl (f ks.isEmpty)) H) : rEqA K f x y H Q := by
  have e : PyData.eqv (.list (ks.map PyData.str)) (.list []) = ks.isEmpty := by cases ks <;> rfl
  refine r_eqD h1 h2 (by rw [PyData.canLay0]; exact s_lay hs) rfl ?_ (by rw [e]; exact h)
  have := s_dep ks
  rw [PyData.depth]
  omega
def deedD (w x : Str) (t : Int) : PyData := .tuple [.str w, .str x, .int t]
def sp_deed : Sp := fun vs H Q _ => ∃ c k st md n ts, vs = [.int c, .int k, .int st, .ref md, .int n] ∧ DAt H md (tmD ts) ∧ ts.length < 60 ∧ (∀ y ∈ ts, NmS y.1) ∧ 0 ≤ k ∧ k ≤ 63 ∧ ∀ v H' k x t, Same H H' → NmS x → Dv H' v (deedD (wkS k) x t) → Q v H'
theorem u_deed {H : Hp} {Q : VK} {E : XK} {c k st n : Int} {md : Addr} {ts : List (Str × Int)} (hd : DAt H md (tmD ts)) (hl : ts.length < 60) (hn : ∀ y ∈ ts, NmS y.1) (h0 : 0 ≤ k) (h1 : k ≤ 63) (q : ∀ v H' k x t, Same H H' → NmS x → Dv H' v (deedD (wkS k) x t) → Q v H') : sp_deed [.int c, .int k, .int st, .ref md, .int n] H Q E := ⟨c, k, st, md, n, ts, rfl, hd, hl, hn, h0, h1, q⟩
theorem ok_deed (T : Txt K mg a) : FnOk P w K mg base CX0 2 a.f__law_deed a.fd__law_deed ["_law_cell", "_law_k", "_law_style", "_law_model", "_law_now"] sp_deed := by
  have c__law_mixed := cal_mixed (P := P) (w := w) (base := base) T
  have c__law_name := cal_name (P := P) (w := w) (base := base) T
  have c__law_later := cal_later (P := P) (w := w) (base := base) T
  refine T.F__law_deed.ok sc__law_deed (fun vs H Q E h => ?_) (fun cdv A outer s H vs Q E hr h => ?_)
  · obtain ⟨_, _, _, _, _, _, rfl, _⟩ := h; rfl
  · obtain ⟨c, k, st, md, n, ts, rfl, hd, hl, hn, h0, h1, q⟩ := h
    refine ⟨_, (pss_cut (ps_set (i := 5) sc__law_deed.nd rfl (Or.inl rfl) (pn_call c__law_mixed (hr.mono (by decide)) rfl T.mg__law_mixed T.kp__law_mixed (pa_cons (pv 0) (pa_cons (pv 1) pa_nil))))
      (pss_cut (ps_set (i := 6) sc__law_deed.nd rfl (Or.inl rfl) (pe_callTy (call_listD rfl) rfl T.no_list PyProof.Rows.boot_list (pa_cons (pv 3) pa_nil)))
      (pss_cut (ps_set (i := 7) sc__law_deed.nd rfl (Or.inl rfl) (pn_call c__law_name (hr.mono (by decide)) rfl T.mg__law_name T.kp__law_name (pa_cons (pv 5) (pa_cons (pv 2) pa_nil))))
      (pss_cutM (ps_if (PW.pt (pw_and (pt_cmpR op_gt (pe_op op_modP (pv 0) pe_int) pe_int (nomark _)) (pw_and (pt_cmpR op_gt (pe_op op_modP (pe_op op_fdivB (pv 5) pe_int) pe_int) pe_int (nomark _)) (pw_and1 (pt_cmpR (op_neA hr.hu8) (pv 6) (pe_lstD pa_nil) (nomark _))))))
        (pss_one (ps_set (i := 7) sc__law_deed.nd rfl (Or.inl rfl) (pe_ix ix_K (pv 6) (pe_op op_modP (pe_op op_fdivB (pv 5) pe_int) (pe_callB call_lenK rfl T.no_len PySem.boot_len (pa_cons (pv 6) pa_nil))) (fun _ _ => rfl))))
        pss_nil)
      (pss_cut (ps_set (i := 8) sc__law_deed.nd rfl (Or.inl rfl) (pe_op op_add (pv 4) (pn_call c__law_later (hr.mono (by decide)) rfl T.mg__law_later T.kp__law_later (pa_cons (pv 0) (pa_cons (pe_op op_fdivB (pv 5) pe_int) pa_nil)))))
      (pss_cutM (ps_if (pt_cmpR op_lt (pe_op op_modP (pv 0) pe_int) pe_int (nomark _))
        (pss_one (ps_set (i := 8) sc__law_deed.nd rfl (Or.inl rfl) (pe_op op_add (pv 8) pe_int)))
        pss_nil)
      (pss_cutM (ps_if (pt_cmpR (op_eqA hr.hu8) (pe_op op_modP (pe_op op_fdivB (pv 5) pe_int) pe_int) pe_int (nomark _))
        (pss_one (ps_set (i := 8) sc__law_deed.nd rfl (Or.inl rfl) (pe_callB (call_maxP rfl) rfl T.no_max PyProof.Rows.boot_max (pa_cons pe_int (pa_cons (pe_op op_sub (pv 4) (pn_call c__law_later (hr.mono (by decide)) rfl T.mg__law_later T.kp__law_later (pa_cons (pv 0) (pa_cons (pe_op op_fdivB (pv 5) pe_int) pa_nil)))) pa_nil)))))
        pss_nil)
      (pss_one (ps_ret (pe_tupD (pa_cons (pe_ix ix_K (pe_lstD (pa_csts (vs := [.str "put", .str "put", .str "put", .str "take", .str "due", .str "due", .str "time_of", .str "least"]) rfl)) (pe_op op_modP (pv 0) pe_int) (fun _ _ => rfl)) (pa_cons (pv 7) (pa_cons (pv 8) pa_nil))))))))))))), ?_⟩
    repeat' (walk_at "rd1")
    refine u_mixed h0 h1 (fun m hm0 hm1 => ?_)
    repeat' (walk_at "rd1")
    refine r_listD hd.rd (fun ql H1 sm1 hn1 hq1 => ?_)
    have hq1' : LAt H1 ql ((ts.map (·.1)).map PyData.str) := by
      have e : (tmD ts).map (·.1) = ts.map (·.1) := by unfold tmD; rw [List.map_map]; rfl
      rw [e] at hq1; exact hq1
    clear hq1
    have hns : ∀ y ∈ ts.map (·.1), NmS y := fun y hy => by
      obtain ⟨z, hz, rfl⟩ := List.mem_map.mp hy
      exact hn z hz
    have hnl : (ts.map (·.1)).length < 60 := by rw [List.length_map]; exact hl
    generalize ts.map (·.1) = nl at *
    repeat' (walk_at "rd1")
    refine u_name (fun x0 hx0 => ?_)
    repeat' (walk_at "rd1")
    refine r_cutM (fun σ' H2 => Same H1 H2 ∧ ∃ x, NmS x ∧ σ' = [some (.int c), some (.int k), some (.int st), some (.ref md), some (.int n), some (.int m), some (.ref ql), some (.str x), none]) ?_ ?_
    · repeat' (walk_at "rd1")
      · rename_i pe H2 sm2 hn2 hpe
        refine r_eqSN (hq1'.keeps sm2).dv hpe.dv hns ?_
        repeat' (walk_at "rd1")
        · have hpos : 0 < nl.length := by
            rename_i hb
            cases nl with
            | nil => simp at hb
            | cons _ _ => simp
          refine r_modP (by omega) (fun b0 b1 => ?_)
          refine r_ixD (d := .str (nl.getD (m / 1200 % (nl.length : Int)).toNat default)) (.inr (hq1'.keeps sm2).dv) (atI_mapI b0 b1) (got_str ?_)
          refine ⟨sm2, _, hns _ ?_, rfl⟩
          have hlt : (m / 1200 % (nl.length : Int)).toNat < nl.length := by omega
          rw [List.getD_eq_getElem?_getD, List.getElem?_eq_getElem hlt]
          exact List.getElem_mem hlt
        · exact ⟨sm2, x0, hx0, rfl⟩
      · exact ⟨Same.refl _, x0, hx0, rfl⟩
      · exact ⟨Same.refl _, x0, hx0, rfl⟩
    rintro σ' H2 ⟨sm2, x, hx, rfl⟩
    repeat' (walk_at "rd1")
    refine u_later (fun r H3 sm3 => ?_)
    repeat' (walk_at "rd1")
    refine r_cutM (fun σ' H4 => H4 = H3 ∧ ∃ t, σ' = [some (.int c), some (.int k), some (.int st), some (.ref md), some (.int n), some (.int m), some (.ref ql), some (.str x), some (.int t)]) ?_ ?_
    · repeat' (walk_at "rd1")
      · exact ⟨rfl, _, rfl⟩
      · exact ⟨rfl, _, rfl⟩
    rintro σ' H4 ⟨rfl, t, rfl⟩
    refine r_cutM (fun σ' H5 => Same H4 H5 ∧ ∃ t, σ' = [some (.int c), some (.int k), some (.int st), some (.ref md), some (.int n), some (.int m), some (.ref ql), some (.str x), some (.int t)]) ?_ ?_
    · repeat' (walk_at "rd1")
      · refine u_later (fun r H3 sm3 => ?_)
        repeat' (walk_at "rd1")
        exact ⟨sm3, _, rfl⟩
      · exact ⟨Same.refl _, _, rfl⟩
    rintro σ' H5 ⟨sm5, t, rfl⟩
    repeat' (walk_at "rd1")
    rename_i pw H6 sm6 hn6 hpw b0 b1
    refine r_ixWd hpw.dv rfl b0 (by simp only [List.length_cons, List.length_nil]; omega) (fun wd hwd => ?_)
    repeat' (walk_at "rd1")
    rename_i vt H7 sm7 hpt
    obtain ⟨wk, rfl⟩ := hwd
    exact q _ _ wk x t (by walk_at "same") hx hpt
theorem cal_deed (T : Txt K mg a) : Cal P w K mg base 2 a.f__law_deed ["_law_cell", "_law_k", "_law_style", "_law_model", "_law_now"] [] sp_deed :=
  ⟨⟨_, _, ok_deed T, T.F__law_deed.binds fun _ _ _ _ _ _ => .all fun us hl => match us, hl with | [_, _, _, _, _], _ => rfl, .nil⟩⟩
inductive Res | twice (x : Str) | nobell (x : Str) | past | nothing | num (t : Int) | pairs (ks : List (Int × Str))
def resD : Res → PyData
  | .twice x => .tuple [.str "twice", .str x]
  | .nobell x => .tuple [.str "nobell", .str x]
  | .past => .tuple [.str "past", .str ""]
  | .nothing => .tuple [.str "told", .none]
  | .num t => .tuple [.str "told", .int t]
  | .pairs ks => .tuple [.str "told", .list (ks.map pairD)]
inductive Stp (n : Int) (ts : List (Str × Int)) (x : Str) (t : Int) : Wk → Res → List (Str × Int) → Int → Prop
  | twice {u} : lkp (tmD ts) x = some u → Stp n ts x t .put (.twice x) ts n
  | pastP : lkp (tmD ts) x = none → t ≤ n → Stp n ts x t .put .past ts n
  | put : lkp (tmD ts) x = none → n < t → Stp n ts x t .put .nothing (ts ++ [(x, t)]) n
  | nobell : lkp (tmD ts) x = none → Stp n ts x t .take (.nobell x) ts n
  | take {u} : lkp (tmD ts) x = some (.int u) → Stp n ts x t .take (.num u) (dropT ts x) n
  | pastD : t < n → Stp n ts x t .due .past ts n
  | due {ks} : n ≤ t → ks.Perm ((ts.filter fun y => decide (y.2 ≤ t)).map swp) → Srt ks → Stp n ts x t .due (.pairs ks) (ts.filter fun y => !decide (y.2 ≤ t)) t
  | timeN : lkp (tmD ts) x = none → Stp n ts x t .time .nothing ts n
  | timeS {u} : lkp (tmD ts) x = some (.int u) → Stp n ts x t .time (.num u) ts n
  | leastN : ts = [] → Stp n ts x t .least .nothing ts n
  | leastS {u} : u ∈ ts.map (·.2) → (∀ j ∈ ts.map (·.2), u ≤ j) → Stp n ts x t .least (.num u) ts n
theorem Stp.det {n : Int} {ts ts1 ts2 : List (Str × Int)} {x : Str} {t n1 n2 : Int} {k : Wk} {r r' : Res} (h1 : Stp n ts x t k r ts1 n1) (h2 : Stp n ts x t k r' ts2 n2) : r = r' ∧ ts1 = ts2 ∧ n1 = n2 := by
  cases h1 with
  | twice a => cases h2 with
    | twice => exact ⟨rfl, rfl, rfl⟩
    | pastP b => rw [a] at b; cases b
    | put b => rw [a] at b; cases b
  | pastP a c => cases h2 with
    | twice b => rw [a] at b; cases b
    | pastP => exact ⟨rfl, rfl, rfl⟩
    | put _ d => omega
  | put a c => cases h2 with
    | twice b => rw [a] at b; cases b
    | pastP _ d => omega
    | put => exact ⟨rfl, rfl, rfl⟩
  | nobell a => cases h2 with
    | nobell => exact ⟨rfl, rfl, rfl⟩
    | take b => rw [a] at b; cases b
  | take a => cases h2 with
    | nobell b => rw [a] at b; cases b
    | take b => rw [a] at b; cases b; exact ⟨rfl, rfl, rfl⟩
  | pastD a => cases h2 with
    | pastD => exact ⟨rfl, rfl, rfl⟩
    | due b => omega
  | due a p s => cases h2 with
    | pastD => omega
    | due b p2 s2 => obtain rfl := srt_unique (p.trans p2.symm) s s2; exact ⟨rfl, rfl, rfl⟩
  | timeN a => cases h2 with
    | timeN => exact ⟨rfl, rfl, rfl⟩
    | timeS b => rw [a] at b; cases b
  | timeS a => cases h2 with
    | timeN b => rw [a] at b; cases b
    | timeS b => rw [a] at b; cases b; exact ⟨rfl, rfl, rfl⟩
  | leastN a => cases h2 with
    | leastN => exact ⟨rfl, rfl, rfl⟩
    | leastS b => rw [a] at b; cases b
  | leastS a c => cases h2 with
    | leastN b => rw [b] at a; cases a
    | leastS b d =>
      have e1 := c _ b
      have e2 := d _ a
      obtain rfl : _ = _ := Int.le_antisymm e1 e2
      exact ⟨rfl, rfl, rfl⟩
theorem res_mv {S : List Addr} {H H' : Hp} {v : V} {r : Res} (h : Dv H v (resD r)) (mv : Mv S H H') (hS : ∀ b ∈ S, ∀ xs, ¬ Rd H b (.lst xs)) : Dv H' v (resD r) := by
  cases r with
  | pairs ks =>
    have h0 : Dv H v (.tuple [.str "told", .list (ks.map pairD)]) := h
    cases h0 with
    | tup e rr =>
      cases rr with
      | cons d1 r2 =>
        cases r2 with
        | cons d2 r3 =>
          cases r3
          cases d2 with
          | lst hR dv =>
            have hp := fun hm => hS _ hm _ hR
            refine .tup (mv.tp _ _ e) (.cons (mv.dat rfl d1) (.cons (.lst ?_ (mv.dats (immAll_map (fun _ => rfl) _) dv)) .nil))
            rcases hR with z | ⟨o, z⟩
            · exact .inl (mv.kp _ _ hp z)
            · exact .inr ⟨o, mv.kp _ _ hp z⟩
  | _ => exact mv.dat rfl h
theorem r_asgG {D : Ends} {σ : St} {H : Hp} {te : TE} {g : TG} (h : te σ H fun v H1 => g v σ H1 fun σ2 H2 => D.nx σ2 H2) : tAsg te g D σ H := h
theorem r_eqStr {K : PySem.W.Frag} {H : Hp} {Q : VK} {f : Bool → Bool} {x y : Str} (b : Bool) (e : decide (x = y) = b) (h : Q (.bl (f b)) H) : rEqA K f (.str x) (.str y) H Q := by
  refine r_eqS rfl ?_
  have : decide (V.str x = V.str y) = b := by rw [← e]; simp
  rw [this]; exact h
local macro_rules | `(tactic| walk_at "rd1") => `(tactic| first
  | ((with_reducible refine' r_eqStr true ?e ?_); case e => decide +kernel)
  | ((with_reducible refine' r_eqStr false ?e ?_); case e => decide +kernel)
  | fail)
set_option hygiene false in
local macro_rules | `(tactic| walk_at "clr") => `(tactic| repeat ((rename True => hT); clear hT))
theorem lk_none {ts : List (Str × Int)} {x : Str} {o : Option V} (e : o.isSome = (lkp (tmD ts) x).isSome) (hb : o.isSome = false) : lkp (tmD ts) x = none := by
  rw [hb] at e
  cases h : lkp (tmD ts) x with
  | none => rfl
  | some u => rw [h] at e; cases e
theorem lk_some {ts : List (Str × Int)} {x : Str} {o : Option V} (e : o.isSome = (lkp (tmD ts) x).isSome) (hb : o.isSome = true) : ∃ u, lkp (tmD ts) x = some (.int u) := by
  rw [hb] at e
  cases h : lkp (tmD ts) x with
  | none => rw [h] at e; cases e
  | some u => obtain ⟨t, rfl⟩ := tmD_int h; exact ⟨t, rfl⟩
def sp_lawdue : Sp := fun vs H Q _ => ∃ md dv n ts k x t, vs = [.ref md, dv, .int n] ∧ DAt H md (tmD ts) ∧ Dv H dv (deedD (wkS k) x t) ∧ ts.length < 60 ∧ (ts.map (·.1)).Nodup ∧ ∀ v H' r ts' n', Mv [md] H H' → DAt H' md (tmD ts') → Stp n ts x t k r ts' n' → Dv H' v (resD r) → Q v H'
theorem ok_lawdue (T : Txt K mg a) : FnOk P w K mg base CX0 2 a.f__law_due a.fd__law_due ["_law_model", "_law_deed_here", "_law_now"] sp_lawdue := by
  refine T.F__law_due.ok sc__law_due (fun vs H Q E h => ?_) (fun cdv A outer s H vs Q E hr h => ?_)
  · obtain ⟨_, _, _, _, _, _, _, rfl, _⟩ := h; rfl
  · obtain ⟨md, dv, n, ts, k, x, t, rfl, hd, hdv, hl, hnd, q⟩ := h
    unfold deedD at hdv
    have hml := tmD_len ts
    refine ⟨_, (pss_cut (ps_asg (pv 1) (pg_tup (n := 3) rfl (pgs_cons (pg_name (i := 3) sc__law_due.nd rfl (Or.inl rfl)) (pgs_cons (pg_name (i := 4) sc__law_due.nd rfl (Or.inl rfl)) (pgs_cons (pg_name (i := 5) sc__law_due.nd rfl (Or.inr rfl)) pgs_nil)))))
      (pss_cut (ps_if (PW.pt (pw_and (pt_cmpR (op_eqA hr.hu8) (pv 3) pe_str (nomark _)) (pw_and1 (pt_cmp (pc_din (hu_of hr) (pv 4) (pv 0)) rfl))))
        (pss_one (ps_ret (pe_tupD (pa_cons pe_str (pa_cons (pv 4) pa_nil)))))
        pss_nil)
      (pss_cut (ps_if (PW.pt (pw_and (pt_cmpR (op_eqA hr.hu8) (pv 3) pe_str (nomark _)) (pw_and1 (pt_cmp (pc_dnotin (hu_of hr) (pv 4) (pv 0)) rfl))))
        (pss_one (ps_ret (pe_tupD (pa_cons pe_str (pa_cons (pv 4) pa_nil)))))
        pss_nil)
      (pss_cut (ps_if (PW.pt (pw_or (PW.pt (pw_and (pt_cmpR (op_eqA hr.hu8) (pv 3) pe_str (nomark _)) (pw_and1 (pt_cmpR op_le (pv 5) (pv 2) (nomark _))))) (pw_or1 (PW.pt (pw_and (pt_cmpR (op_eqA hr.hu8) (pv 3) pe_str (nomark _)) (pw_and1 (pt_cmpR op_lt (pv 5) (pv 2) (nomark _))))))))
        (pss_one (ps_ret (pe_tupD (pa_cons pe_str (pa_cons pe_str pa_nil)))))
        pss_nil)
      (pss_cut (ps_set (i := 6) sc__law_due.nd rfl (Or.inl rfl) pe_non)
      (pss_cut (ps_if (pt_cmpR (op_eqA hr.hu8) (pv 3) pe_str (nomark _))
        (pss_one (ps_dput (hu_of hr) (pv 0) (pv 4) (pv 5) rfl))
        pss_nil)
      (pss_cut (ps_if (pt_cmpR (op_eqA hr.hu8) (pv 3) pe_str (nomark _))
        (pss_one (ps_set (i := 6) sc__law_due.nd rfl (Or.inl rfl) (pe_bm PySem.F.plainAttrs_dict PySem.F.slot_dict_pop PySem.F.type_dict_pop mt_dpop (pv 0) (pa_cons (pv 4) pa_nil))))
        pss_nil)
      (pss_cut (ps_if (pt_cmpR (op_eqA hr.hu8) (pv 3) pe_str (nomark _))
        (pss_cut (ps_set (i := 6) sc__law_due.nd rfl (Or.inl rfl) (pe_callB call_sortP rfl T.no_sorted PyProof.Rows.boot_sorted (pa_cons (pe_thaw (pe_lc (T := ["_law_one", "_law_when"]) (M := ["_law_model", "_law_deed_here", "_law_now", "_law_word", "_law_name_here", "_law_time", "_law_found", "07", "08"]) (lcn (defScope s__law_due) ["_law_model", "_law_deed_here", "_law_now", "_law_word", "_law_name_here", "_law_time", "_law_found", "_law_when", "_law_one"] rfl rfl (by decide +kernel)) rfl (pi_items (pv 0)) (fun _ _ _ _ _ => (pg_tupK (K := K) (n := 2) rfl rfl (pgs_cons (pg_name (i := 0) (show List.Nodup (["_law_one", "_law_when", "_law_model", "_law_deed_here", "_law_now", "_law_word", "_law_name_here", "_law_time", "_law_found", "07", "08"] : List Str) by decide +kernel) rfl (Or.inl rfl)) (pgs_cons (pg_name (i := 1) (show List.Nodup (["_law_one", "_law_when", "_law_model", "_law_deed_here", "_law_now", "_law_word", "_law_name_here", "_law_time", "_law_found", "07", "08"] : List Str) by decide +kernel) rfl (Or.inl rfl)) pgs_nil)))) (gown_tup (gsown_cons (by decide) (gsown_cons (by decide) gsown_nil))) (fun _ _ _ _ _ => (pif_one (pt_cmpR op_le (pv 1) (pv 7) (nomark _)))) (fun _ _ _ _ _ => (pe_tupD (pa_cons (pv 1) (pa_cons (pv 0) pa_nil)))))) pa_nil)))
        (pss_one (ps_for PassesOwn.never rfl (pi_list (pv 6)) (pg_tup (n := 2) rfl (pgs_cons (pg_name (i := 7) sc__law_due.nd rfl (Or.inl rfl)) (pgs_cons (pg_name (i := 8) sc__law_due.nd rfl (Or.inl rfl)) pgs_nil)))
          (pss_one (ps_expr (pe_bm PySem.F.plainAttrs_dict PySem.F.slot_dict_pop PySem.F.type_dict_pop mt_dpop (pv 0) (pa_cons (pv 8) pa_nil)))))))
        pss_nil)
      (pss_cut (ps_if (pt_cmpR (op_eqA hr.hu8) (pv 3) pe_str (nomark _))
        (pss_one (ps_set (i := 6) sc__law_due.nd rfl (Or.inl rfl) (pe_dget1 (hu_of hr) (pv 0) (pv 4) ⟨rfl, rfl, rfl, rfl⟩)))
        pss_nil)
      (pss_cut (ps_if (pt_cmpR (op_eqA hr.hu8) (pv 3) pe_str (nomark _))
        (pss_one (ps_set (i := 6) sc__law_due.nd rfl (Or.inl rfl) (pe_minVD (pv 0) rfl rfl T.no_min)))
        pss_nil)
      (pss_one (ps_ret (pe_tupD (pa_cons pe_str (pa_cons (pv 6) pa_nil))))))))))))))), ?_⟩
    refine r_cutS ?_
    refine r_asgG ?_
    refine r_var rfl ?_
    refine r_unp3 hdv (fun w1 w2 w3 f1 f2 f3 => ?_)
    obtain rfl := f1.str_inv
    obtain rfl := f2.str_inv
    obtain rfl := f3.int_inv
    cases k with
    | put =>
      show _
      unfold wkS
      repeat' (walk_at "rd1")
      · walk_at "clr"
        rename_i o e hb v2 H2 sm2 hv2
        obtain ⟨u, hu⟩ := lk_some e hb
        exact q _ _ (.twice x) ts n sm2.mv (hd.keeps sm2) (.twice hu) hv2
      · walk_at "clr"
        rename_i o e hb hb2 v2 H2 sm2 hv2
        exact q _ _ .past ts n sm2.mv (hd.keeps sm2) (.pastP (lk_none e hb) hb2) hv2
      · walk_at "clr"
        rename_i o e hb hb2 H2 mv2 hd2 v3 H3 sm3 hv3
        have hk := lk_none e hb
        rw [putD_new hk] at hd2
        have hd2' : DAt H2 md (tmD (ts ++ [(x, t)])) := by unfold tmD at hd2 ⊢; rw [List.map_append]; exact hd2
        exact q _ _ .nothing _ n (mv2.trans sm3.mv) (hd2'.keeps sm3) (.put hk (by omega)) hv3
    | take =>
      unfold wkS
      repeat' (walk_at "rd1")
      · walk_at "clr"
        rename_i o e hb v2 H2 sm2 hv2
        exact q _ _ (.nobell x) ts n sm2.mv (hd.keeps sm2) (.nobell (lk_none e hb)) hv2
      · walk_at "clr"
        rename_i o e hb
        obtain ⟨u, hu⟩ := lk_some e hb
        refine r_tyD hd ?_
        repeat' (walk_at "rd1")
        refine r_dpopV hd hu (fun v6 H6 hv6 mv6 hd6 => ?_)
        obtain rfl := hv6.int_inv
        rw [drop_tmD] at hd6
        repeat' (walk_at "rd1")
        walk_at "clr"
        rename_i v7 H7 sm7 hv7
        exact q _ _ (.num u) _ n (mv6.trans sm7.mv) (hd6.keeps sm7) (.take hu) hv7
    | time =>
      unfold wkS
      repeat' (walk_at "rd1")
      obtain ⟨o, ho, hr⟩ : ∃ o, DGet H md (.str x) o ∧ ((∃ u, lkp (tmD ts) x = some (.int u) ∧ o.getD .non = .int u) ∨ (lkp (tmD ts) x = none ∧ o.getD .non = .non)) :=
        r_dget1o (Q := fun v _ => (∃ u, lkp (tmD ts) x = some (.int u) ∧ v = .int u) ∨ (lkp (tmD ts) x = none ∧ v = .non)) hd (fun e he v' hv' => by obtain ⟨u, rfl⟩ := tmD_int he; obtain rfl := hv'.int_inv; exact .inl ⟨u, he, rfl⟩) (fun he => .inr ⟨he, rfl⟩)
      refine ⟨o, ho, ?_⟩
      rcases hr with ⟨u, he, e⟩ | ⟨he, e⟩
      · rw [e]
        repeat' (walk_at "rd1")
        walk_at "clr"
        rename_i v7 H7 sm7 hv7
        exact q _ _ (.num u) ts n sm7.mv (hd.keeps sm7) (.timeS he) hv7
      · rw [e]
        repeat' (walk_at "rd1")
        walk_at "clr"
        rename_i v7 H7 sm7 hv7
        exact q _ _ .nothing ts n sm7.mv (hd.keeps sm7) (.timeN he) hv7
    | least =>
      unfold wkS
      repeat' (walk_at "rd1")
      refine r_minVD hd (ns := ts.map (·.2)) (by unfold tmD; rw [List.map_map, List.map_map]; rfl) (fun he => ?_) (fun u hu hm => ?_)
      · repeat' (walk_at "rd1")
        walk_at "clr"
        rename_i v7 H7 sm7 hv7
        exact q _ _ .nothing ts n sm7.mv (hd.keeps sm7) (.leastN (List.map_eq_nil_iff.mp he)) hv7
      · repeat' (walk_at "rd1")
        walk_at "clr"
        rename_i v7 H7 sm7 hv7
        exact q _ _ (.num u) ts n sm7.mv (hd.keeps sm7) (.leastS hu hm) hv7
    | due =>
      unfold wkS
      repeat' (walk_at "rd1")
      · walk_at "clr"
        rename_i hb v7 H7 sm7 hv7
        exact q _ _ .past ts n sm7.mv (hd.keeps sm7) (.pastD hb) hv7
      · walk_at "clr"
        rename_i hb
        refine r_lcI hd (fun R hR => ?_) (leD t) wpD (by rw [tmD_len]; omega) wpD_imm (fun y c Hf H2 N hc mvf hrd sm2 hy yes no => ?_) (fun q1 H1 sm1 hn1 hq1 => ?_)
        · repeat' (walk_at "rd1")
          exact hR
        · obtain ⟨z, hz, rfl⟩ := List.mem_map.mp hc
          refine r_unpP hy (fun w1 w2 f1 f2 => ?_)
          obtain rfl := f1.str_inv
          obtain rfl := f2.int_inv
          repeat' (walk_at "rd1")
          refine r_lct (fun hb => ?_) (fun hb => no hb _ (Same.refl _))
          repeat' (walk_at "rd1")
          exact yes hb _ _ (by walk_at "same") (by walk_at "dat")
        have hq1' : Dv H1 (.ref q1) (.list (((ts.filter fun y => decide (y.2 ≤ t)).map swp).map pairD)) := by
          have := hq1.dv
          unfold tmD at this
          rw [List.filter_map, List.map_map] at this
          rw [List.map_map]; exact this
        have hfl : (ts.filter fun y => decide (y.2 ≤ t)).length ≤ ts.length := List.length_filter_le _ _
        repeat' (walk_at "rd1")
        refine r_sortP hq1' (by rw [List.length_map]; omega) (fun q2 H3 ks sm3 hn3 hp hs hq2 => ?_)
        repeat' (walk_at "rd1")
        have hd3 : DAt H3 md (tmD ts) := hd.keeps (sm1.trans sm3)
        have hqd : q2 ≠ md := by
          obtain ⟨xs, e2, _⟩ := hq2
          obtain ⟨kvs, e3, _⟩ := hd3
          exact ne_of e2 e3 (by intro y; cases y)
        have hkn : (ks.map (·.2)).Nodup := by
          have h1 : (ks.map (·.2)).Perm (((ts.filter fun x => decide (x.2 ≤ t)).map swp).map (·.2)) := hp.map _
          refine h1.nodup_iff.mpr ?_
          rw [List.map_map]
          exact hnd.sublist (List.filter_sublist.map _)
        have hkm : ∀ k ∈ ks, ∃ x ∈ ts, x.2 ≤ t ∧ k = swp x := fun k hk => by
          obtain ⟨x, hx, rfl⟩ := List.mem_map.mp (hp.mem_iff.mp hk)
          exact ⟨x, (List.mem_filter.mp hx).1, of_decide_eq_true (List.mem_filter.mp hx).2, rfl⟩
        refine forDB (Hb := H3) (cs := ks) (gd := pairD) hq2.dv (fun j σ' H' => (∃ z7 z8, σ' = [some (.ref md), some dv, some (.int n), some (.str "due"), some (.str x), some (.int t), some (.ref q2), z7, z8]) ∧ Mv [md] H3 H' ∧ DAt H' md (tmD (ts.filter fun x => !((ks.take j).map (·.2)).contains x.1))) ⟨⟨_, _, rfl⟩, Mv.refl, by show DAt H3 md (tmD (ts.filter fun _ => true)); rw [fil_all]; exact hd3⟩ (fun i σ' H' _ ⟨_, mv, _⟩ a' xs e hx => by cases e; exact mv.sq (by simpa using hqd) hx) ?_ ?_
        · rintro j k y σ' H' hk ⟨⟨z7, z8, rfl⟩, mv5, hd5⟩ hdx _
          have hy : Dv H' y (.tuple [.int k.1, .str k.2]) := hdx rfl mv5.tp
          refine r_unpP hy (fun w1 w2 f1 f2 => ?_)
          obtain rfl := f1.int_inv
          obtain rfl := f2.str_inv
          obtain ⟨z, hz, hzt, rfl⟩ := hkm k (List.mem_of_getElem? hk)
          have hlk : lkp (tmD (ts.filter fun x => !((ks.take j).map (·.2)).contains x.1)) (swp z).2 = some (.int z.2) := by
            refine tm_lkp (x := z) (hnd.sublist (List.filter_sublist.map _)) (List.mem_filter.mpr ⟨hz, ?_⟩)
            have := nd_take hkn hk
            rw [Bool.not_eq_true', ← Bool.not_eq_true, List.contains_iff_mem]
            exact this
          repeat' (walk_at "rd1")
          refine r_tyD hd5 ?_
          repeat' (walk_at "rd1")
          refine r_dpop hd5 hlk (fun v6 H6 mv6 hd6 => ?_)
          repeat' (walk_at "rd1")
          refine ⟨⟨_, _, rfl⟩, mv5.trans mv6, ?_⟩
          have e : tmD (ts.filter fun x => !((ks.take (j + 1)).map (·.2)).contains x.1) = dropD (tmD (ts.filter fun x => !((ks.take j).map (·.2)).contains x.1)) (swp z).2 := by
            unfold dropD tmD
            rw [List.filter_map, List.filter_filter]
            congr 1
            refine List.filter_congr fun x hx => ?_
            rw [take_snoc hk, List.map_append, Bool.eq_iff_iff]
            simp
            exact and_comm
          rw [e]; exact hd6
        · rintro σ' H' ⟨⟨z7, z8, rfl⟩, mv5, hd5⟩
          rw [List.take_length] at hd5
          have e : (ts.filter fun x => !(ks.map (·.2)).contains x.1) = ts.filter fun x => !decide (x.2 ≤ t) := by
            refine List.filter_congr fun x hx => ?_
            congr 1
            rw [Bool.eq_iff_iff, List.contains_iff_mem, decide_eq_true_eq]
            constructor
            · intro hm
              obtain ⟨k, hk, e⟩ := List.mem_map.mp hm
              obtain ⟨y, hy, hyt, rfl⟩ := hkm k hk
              have h1 := tm_lkp hnd hy
              have h2 := tm_lkp hnd hx
              have e' : y.1 = x.1 := e
              rw [e', h2] at h1
              have h3 : x.2 = y.2 := by
                injection h1 with h1
                injection h1
              omega
            · intro ht
              exact List.mem_map.mpr ⟨swp x, hp.mem_iff.mpr (List.mem_map_of_mem (List.mem_filter.mpr ⟨hx, decide_eq_true ht⟩)), rfl⟩
          rw [e] at hd5
          have hq5 : LAt H' q2 (ks.map pairD) := hq2.mv mv5 (by simpa using hqd)
          repeat' (walk_at "rd1")
          rename_i v7 H7 sm7 hv7
          exact q _ _ (.pairs ks) _ t ((((sm1.trans sm3).mv (S := [md])).trans mv5).trans sm7.mv) (hd5.keeps sm7) (.due (by omega) hp hs) hv7
theorem cal_lawdue (T : Txt K mg a) : Cal P w K mg base 2 a.f__law_due ["_law_model", "_law_deed_here", "_law_now"] [] sp_lawdue :=
  ⟨⟨_, _, ok_lawdue T, T.F__law_due.binds fun _ _ _ _ _ _ => .all fun us hl => match us, hl with | [_, _, _], _ => rfl, .nil⟩⟩
theorem xn_same {H : Hp} {d e : Addr} {x : Str} {o : HO} (hd : H d = none) (he : Xn H d x e = none) : Same H (upd (Xn H d x) e o) := fun b u hb => by
  rw [upd_ne (fun z => by subst z; unfold Xn at he; rw [upd_ne (fun y => by subst y; rw [hd] at hb; cases hb)] at he; rw [he] at hb; cases hb)]
  unfold Xn
  rw [upd_ne (fun y => by subst y; rw [hd] at hb; cases hb)]
  exact hb
theorem WAt.mvS {C p d : Addr} {S : List Addr} {H H' : Hp} {n : Int} {ts : List (Str × Int)} (m : Mv S H H') (h1 : p ∉ S) (h2 : d ∉ S) (h : WAt C H (.ref p) d n ts) : WAt C H' (.ref p) d n ts :=
  ⟨by obtain ⟨p', dx, e, h⟩ := h.ins; cases e; exact ⟨p, dx, rfl, m.at h1 h⟩, h.dat.mv m h2⟩
def sp_asked (C : Addr) : Sp := fun vs H Q _ => ∃ p d dv n ts k x t, vs = [.ref p, dv] ∧ WAt C H (.ref p) d n ts ∧ Dv H dv (deedD (wkS k) x t) ∧ NmS x ∧ ts.length < 60 ∧ (ts.map (·.1)).Nodup ∧ ∀ v H' r ts' n', Mv [p, d] H H' → WAt C H' (.ref p) d n' ts' → Stp n ts x t k r ts' n' → Dv H' v (resD r) → Q v H'
theorem ok_asked (T : Txt K mg a) : FnOk P w K mg base CX0 7 a.f__law_asked a.fd__law_asked ["_law_told", "_law_deed_here"] (sp_asked a.C_Row) := by
  have n1 := T.na_Row_now; have n2 := T.na_Row_times; have cl := T.cl_Row
  have c_Row_put := cal_put (P := P) (w := w) (base := base) T
  have c_Row_take := cal_take (P := P) (w := w) (base := base) T
  have c_Row_due := cal_due (P := P) (w := w) (base := base) T
  have c_Row_time_of := cal_timeof (P := P) (w := w) (base := base) T
  have c_Row_least := cal_least (P := P) (w := w) (base := base) T
  refine T.F__law_asked.ok sc__law_asked (fun vs H Q E h => ?_) (fun cdv A outer s H vs Q E hr h => ?_)
  · obtain ⟨_, _, _, _, _, _, _, _, rfl, _⟩ := h; rfl
  · obtain ⟨p, d, dv, n, ts, k, x, t, rfl, hw, hdv, hx, hl, hnd, q⟩ := h
    have hi := hw.ins
    unfold deedD at hdv
    refine ⟨_, (pss_cut (ps_asg (pv 1) (pg_tup (n := 3) rfl (pgs_cons (pg_name (i := 2) sc__law_asked.nd rfl (Or.inl rfl)) (pgs_cons (pg_name (i := 3) sc__law_asked.nd rfl (Or.inl rfl)) (pgs_cons (pg_name (i := 4) sc__law_asked.nd rfl (Or.inl rfl)) pgs_nil)))))
      (pss_one (ps_tryH (fun _ _ _ hP => (pss_cut (ps_if (pt_cmpR (op_eqK (K := K) rfl hr.hu8) (pv 2) pe_str (nomark _))
          (pss_one (ps_ret (pe_tupD (pa_cons pe_str (pa_cons (pd_meth (pv 0) T.cl_Row T.m_Row_put c_Row_put (hr.mono (by decide)) hP (pa_cons (pv 3) (pa_cons (pv 4) pa_nil))) pa_nil)))))
          pss_nil)
        (pss_cut (ps_if (pt_cmpR (op_eqK (K := K) rfl hr.hu8) (pv 2) pe_str (nomark _))
          (pss_one (ps_ret (pe_tupD (pa_cons pe_str (pa_cons (pd_meth (pv 0) T.cl_Row T.m_Row_take c_Row_take (hr.mono (by decide)) hP (pa_cons (pv 3) pa_nil)) pa_nil)))))
          pss_nil)
        (pss_cut (ps_if (pt_cmpR (op_eqK (K := K) rfl hr.hu8) (pv 2) pe_str (nomark _))
          (pss_one (ps_ret (pe_tupD (pa_cons pe_str (pa_cons (pd_meth (pv 0) T.cl_Row T.m_Row_due c_Row_due (hr.mono (by decide)) hP (pa_cons (pv 4) pa_nil)) pa_nil)))))
          pss_nil)
        (pss_cut (ps_if (pt_cmpR (op_eqK (K := K) rfl hr.hu8) (pv 2) pe_str (nomark _))
          (pss_one (ps_ret (pe_tupD (pa_cons pe_str (pa_cons (pn_meth (pv 0) T.cl_Row T.m_Row_time_of c_Row_time_of (hr.mono (by decide)) (pa_cons (pv 3) pa_nil)) pa_nil)))))
          pss_nil)
        (pss_one (ps_ret (pe_tupD (pa_cons pe_str (pa_cons (pn_meth0 (pv 0) T.cl_Row T.m_Row_least c_Row_least (hr.mono (by decide))) pa_nil))))))))))
        pss_nil
        (HdsOk.cons (i := some 5) (cl_oneD rfl T.mg_Twice T.o_Twice) (fun ae => (pss_one (ps_ret (pe_tupD (pa_cons pe_str (pa_cons (pe_fldXK (K := K) rfl (pv 5) rfl) pa_nil)))))) ⟨rfl, rfl⟩
        (HdsOk.cons (i := some 5) (cl_oneD rfl T.mg_NoBell T.o_NoBell) (fun ae => (pss_one (ps_ret (pe_tupD (pa_cons pe_str (pa_cons (pe_fldXK (K := K) rfl (pv 5) rfl) pa_nil)))))) ⟨rfl, rfl⟩
        (HdsOk.cons (i := none) (cl_oneD rfl T.mg_Past T.o_Past) (fun ae => (pss_one (ps_ret (pe_tupD (pa_cons pe_str (pa_cons pe_str pa_nil)))))) trivial
        HdsOk.nil))) sc__law_asked.nd rfl rfl rfl))), ?_⟩
    refine r_cutS ?_
    refine r_asgG ?_
    refine r_var rfl ?_
    refine r_unp3 hdv (fun w1 w2 w3 f1 f2 f3 => ?_)
    obtain rfl := f1.str_inv
    obtain rfl := f2.str_inv
    obtain rfl := f3.int_inv
    cases k with
    | put =>
      unfold wkS
      repeat' (walk_at "rd1")
      refine ⟨.ref p, d, n, ts, x, t, rfl, hw, by omega, hx.t, fun u hu d' hd' => ?_, fun hk hb => ?_, fun hk hb H' mv' hw' => ?_⟩
      · refine ⟨_, rfl, .inl ⟨T.hit_Twice_Twice, fun ae hae => ?_⟩⟩
        have sm := xn_same (o := .ext (isX ae a.C_Twice (some d'))) hd' hae
        have hne : d' ≠ ae := fun z => by subst z; unfold Xn at hae; rw [upd_same] at hae; cases hae
        have ha : upd (Xn H d' x) ae (.ext (isX ae a.C_Twice (some d'))) ae = some _ := upd_same
        have hdd : upd (Xn H d' x) ae (.ext (isX ae a.C_Twice (some d'))) d' = some (.xd [("name", .str x)]) := by rw [upd_ne hne]; exact upd_same
        generalize upd (Xn H d' x) ae (.ext (isX ae a.C_Twice (some d'))) = HE at *
        repeat' (walk_at "rd1")
        refine r_fldXv ha T.n_Twice hdd rfl ?_
        repeat' (walk_at "rd1")
        rename_i v7 H7 sm7 hv7
        exact q _ _ (.twice x) ts n (sm.trans sm7).mv (hw.keeps (sm.trans sm7)) (.twice hu) hv7
      · refine ⟨_, rfl, .inr ⟨T.hit_Past_Twice, .inr ⟨T.hit_Past_NoBell, .inl ⟨T.hit_Past_Past, fun ae hae => ?_⟩⟩⟩⟩
        have sm : Same H (upd H ae (.ext (isX ae a.C_Past none))) := same_upd hae
        generalize upd H ae (.ext (isX ae a.C_Past none)) = HE at *
        repeat' (walk_at "rd1")
        rename_i v7 H7 sm7 hv7
        exact q _ _ .past ts n (sm.trans sm7).mv (hw.keeps (sm.trans sm7)) (.pastP hk hb) hv7
      · repeat' (walk_at "rd1")
        rename_i v7 H7 sm7 hv7
        refine q _ _ .nothing _ n ?_ (hw'.keeps sm7) (.put hk hb) hv7
        exact Mv.step (Mv.refl (S := [p, d])) (mv'.trans sm7.mv) fun b hb => .inl (List.mem_cons_of_mem _ hb)
    | take =>
      unfold wkS
      repeat' (walk_at "rd1")
      refine ⟨.ref p, d, n, ts, x, rfl, hw, hx.t, fun hk d' hd' => ?_, fun u hu H' mv' hw' => ?_⟩
      · refine ⟨_, rfl, .inr ⟨T.hit_NoBell_Twice, .inl ⟨T.hit_NoBell_NoBell, fun ae hae => ?_⟩⟩⟩
        have sm := xn_same (o := .ext (isX ae a.C_NoBell (some d'))) hd' hae
        have hne : d' ≠ ae := fun z => by subst z; unfold Xn at hae; rw [upd_same] at hae; cases hae
        have ha : upd (Xn H d' x) ae (.ext (isX ae a.C_NoBell (some d'))) ae = some _ := upd_same
        have hdd : upd (Xn H d' x) ae (.ext (isX ae a.C_NoBell (some d'))) d' = some (.xd [("name", .str x)]) := by rw [upd_ne hne]; exact upd_same
        generalize upd (Xn H d' x) ae (.ext (isX ae a.C_NoBell (some d'))) = HE at *
        repeat' (walk_at "rd1")
        refine r_fldXv ha T.n_NoBell hdd rfl ?_
        repeat' (walk_at "rd1")
        rename_i v7 H7 sm7 hv7
        exact q _ _ (.nobell x) ts n (sm.trans sm7).mv (hw.keeps (sm.trans sm7)) (.nobell hk) hv7
      · repeat' (walk_at "rd1")
        rename_i v7 H7 sm7 hv7
        refine q _ _ (.num u) _ n ?_ (hw'.keeps sm7) (.take hu) hv7
        exact Mv.step (Mv.refl (S := [p, d])) (mv'.trans sm7.mv) fun b hb => .inl (List.mem_cons_of_mem _ hb)
    | due =>
      unfold wkS
      repeat' (walk_at "rd1")
      refine ⟨p, d, n, ts, t, rfl, hw, hl, hnd, fun hb => ?_, fun hb q2 H' ks mv' hn' hp hs hq2 hw' => ?_⟩
      · refine ⟨_, rfl, .inr ⟨T.hit_Past_Twice, .inr ⟨T.hit_Past_NoBell, .inl ⟨T.hit_Past_Past, fun ae hae => ?_⟩⟩⟩⟩
        have sm : Same H (upd H ae (.ext (isX ae a.C_Past none))) := same_upd hae
        generalize upd H ae (.ext (isX ae a.C_Past none)) = HE at *
        repeat' (walk_at "rd1")
        rename_i v7 H7 sm7 hv7
        exact q _ _ .past ts n (sm.trans sm7).mv (hw.keeps (sm.trans sm7)) (.pastD hb) hv7
      · repeat' (walk_at "rd1")
        rename_i v7 H7 sm7 hv7
        exact q _ _ (.pairs ks) _ t (mv'.trans sm7.mv) (hw'.keeps sm7) (.due hb hp hs) hv7
    | time =>
      unfold wkS
      repeat' (walk_at "rd1")
      refine ⟨.ref p, d, n, ts, x, rfl, hw, fun u hu => ?_, fun hk => ?_⟩
      · repeat' (walk_at "rd1")
        rename_i v7 H7 sm7 hv7
        exact q _ _ (.num u) ts n sm7.mv (hw.keeps sm7) (.timeS hu) hv7
      · repeat' (walk_at "rd1")
        rename_i v7 H7 sm7 hv7
        exact q _ _ .nothing ts n sm7.mv (hw.keeps sm7) (.timeN hk) hv7
    | least =>
      unfold wkS
      repeat' (walk_at "rd1")
      refine ⟨.ref p, d, n, ts, rfl, hw, fun e => ?_, fun u hu hm => ?_⟩
      · repeat' (walk_at "rd1")
        rename_i v7 H7 sm7 hv7
        exact q _ _ .nothing ts n sm7.mv (hw.keeps sm7) (.leastN e) hv7
      · repeat' (walk_at "rd1")
        rename_i v7 H7 sm7 hv7
        exact q _ _ (.num u) ts n sm7.mv (hw.keeps sm7) (.leastS hu hm) hv7
theorem cal_asked (T : Txt K mg a) : Cal P w K mg base 7 a.f__law_asked ["_law_told", "_law_deed_here"] [] (sp_asked a.C_Row) :=
  ⟨⟨_, _, ok_asked T, T.F__law_asked.binds fun _ _ _ _ _ _ => .all fun us hl => match us, hl with | [_, _], _ => rfl, .nil⟩⟩
def ResOk : Res → Prop
  | .twice x => NmS x
  | .nobell x => NmS x
  | .pairs ks => ∀ k ∈ ks, NmS k.2
  | _ => True
def sp_alike : Sp := fun vs H Q _ => ∃ u v r, vs = [u, v] ∧ Dv H u (resD r) ∧ Dv H v (resD r) ∧ ResOk r ∧ ∀ H', Same H H' → Q (.bl true) H'
theorem ok_alike (T : Txt K mg a) : FnOk P w K mg base CX0 3 a.f__law_alike a.fd__law_alike ["_law_found", "_law_due_here"] sp_alike := by
  have c__law_whole := cal_whole (P := P) (w := w) (base := base) T
  have c__law_pairs_are := cal_pairs (P := P) (w := w) (base := base) T
  refine T.F__law_alike.ok sc__law_alike (fun vs H Q E h => ?_) (fun cdv A outer s H vs Q E hr h => ?_)
  · obtain ⟨_, _, _, rfl, _⟩ := h; rfl
  · obtain ⟨u, v, r, rfl, hu, hv, hr0, q⟩ := h
    refine ⟨_, (pss_cut (ps_if (PW.pt (pw_or (pt_cmpR (op_neA hr.hu8) (pe_ix ix_K (pv 0) pe_int (fun _ _ => rfl)) (pe_ix ix_K (pv 1) pe_int (fun _ _ => rfl)) (nomark _)) (pw_or1 (pt_cmpR op_isN (pe_ix ix_K (pv 1) pe_int (fun _ _ => rfl)) pe_non (nomark _)))))
        (pss_one (ps_ret (pe_and (pe_cmpR (op_eqA hr.hu8) (pe_ix ix_K (pv 0) pe_int (fun _ _ => rfl)) (pe_ix ix_K (pv 1) pe_int (fun _ _ => rfl)) (nomark _)) (pe_one (pe_cmpR op_isN (pe_ix ix_K (pv 0) pe_int (fun _ _ => rfl)) pe_non (nomark _))))))
        pss_nil)
      (pss_cut (ps_if (pt_truth (pe_callB call_isi rfl T.no_isinstance PyProof.Rows.boot_isinstance (pa_cons (pe_ix ix_K (pv 1) pe_int (fun _ _ => rfl)) (pa_cons (pe_bltn (v := .ty "list") rfl T.no_list PyProof.Rows.boot_list rfl) pa_nil))) (fun _ => rfl))
        (pss_one (ps_ret (pn_call c__law_pairs_are (hr.mono (by decide)) rfl T.mg__law_pairs_are T.kp__law_pairs_are (pa_cons (pe_ix ix_K (pv 0) pe_int (fun _ _ => rfl)) (pa_cons (pe_ix ix_K (pv 1) pe_int (fun _ _ => rfl)) pa_nil)))))
        pss_nil)
      (pss_cut (ps_if (pt_truth (pe_callB call_isi rfl T.no_isinstance PyProof.Rows.boot_isinstance (pa_cons (pe_ix ix_K (pv 1) pe_int (fun _ _ => rfl)) (pa_cons (pe_bltn (v := .ty "str") rfl T.no_str PyProof.Rows.boot_str rfl) pa_nil))) (fun _ => rfl))
        (pss_one (ps_ret (pe_cmpR (op_eqA hr.hu8) (pe_ix ix_K (pv 0) pe_int (fun _ _ => rfl)) (pe_ix ix_K (pv 1) pe_int (fun _ _ => rfl)) (nomark _))))
        pss_nil)
      (pss_one (ps_ret (pe_and (pn_call c__law_whole (hr.mono (by decide)) rfl T.mg__law_whole T.kp__law_whole (pa_cons (pe_ix ix_K (pv 0) pe_int (fun _ _ => rfl)) pa_nil)) (pe_one (pe_cmpR (op_eqA hr.hu8) (pe_ix ix_K (pv 0) pe_int (fun _ _ => rfl)) (pe_ix ix_K (pv 1) pe_int (fun _ _ => rfl)) (nomark _))))))))), ?_⟩
    have fin : ∀ {v : V}, Q (.bl (decide (v = v))) H := fun {v} => by rw [decide_eq_true rfl]; exact q _ (Same.refl _)
    cases r with
    | twice x =>
      have hu1 : Dv H u (.tuple [.str "twice", .str x]) := hu
      have hv1 : Dv H v (.tuple [.str "twice", .str x]) := hv
      clear hu hv
      repeat' (walk_at "rd1")
      all_goals exact fin
    | nobell x =>
      have hu1 : Dv H u (.tuple [.str "nobell", .str x]) := hu
      have hv1 : Dv H v (.tuple [.str "nobell", .str x]) := hv
      clear hu hv
      repeat' (walk_at "rd1")
      all_goals exact fin
    | past =>
      have hu1 : Dv H u (.tuple [.str "past", .str ""]) := hu
      have hv1 : Dv H v (.tuple [.str "past", .str ""]) := hv
      clear hu hv
      repeat' (walk_at "rd1")
      all_goals exact q _ (Same.refl _)
    | nothing =>
      have hu1 : Dv H u (.tuple [.str "told", .none]) := hu
      have hv1 : Dv H v (.tuple [.str "told", .none]) := hv
      clear hu hv
      repeat' (walk_at "rd1")
      all_goals exact q _ (Same.refl _)
    | num t =>
      have hu1 : Dv H u (.tuple [.str "told", .int t]) := hu
      have hv1 : Dv H v (.tuple [.str "told", .int t]) := hv
      clear hu hv
      repeat' (walk_at "rd1")
      all_goals exact fin
    | pairs ks =>
      have hu1 : Dv H u (.tuple [.str "told", .list (ks.map pairD)]) := hu
      have hv1 : Dv H v (.tuple [.str "told", .list (ks.map pairD)]) := hv
      clear hu hv
      repeat' (walk_at "rd1")
      · rename_i a1 h1 e1 _ _ _
        subst e1
        cases h1
      · refine u_pairs (ks := ks) ?_ ?_ hr0 (fun H' sm => q _ sm) <;> assumption
theorem cal_alike (T : Txt K mg a) : Cal P w K mg base 3 a.f__law_alike ["_law_found", "_law_due_here"] [] sp_alike :=
  ⟨⟨_, _, ok_alike T, T.F__law_alike.binds fun _ _ _ _ _ _ => .all fun us hl => match us, hl with | [_, _], _ => rfl, .nil⟩⟩
theorem Stp.ok {n : Int} {ts ts' : List (Str × Int)} {x : Str} {t n' : Int} {k : Wk} {r : Res} (h : Stp n ts x t k r ts' n') (hx : NmS x) (hn : ∀ y ∈ ts, NmS y.1) (hnd : (ts.map (·.1)).Nodup) :
    ResOk r ∧ (∀ y ∈ ts', NmS y.1) ∧ (ts'.map (·.1)).Nodup ∧ ts'.length ≤ ts.length + 1 := by
  cases h with
  | twice _ => exact ⟨hx, hn, hnd, by omega⟩
  | pastP _ _ => exact ⟨trivial, hn, hnd, by omega⟩
  | put h1 _ =>
    refine ⟨trivial, fun y hy => ?_, ?_, by simp⟩
    · rcases List.mem_append.mp hy with hy | hy
      · exact hn y hy
      · have : y = (x, t) := by simpa using hy
        rw [this]; exact hx
    · rw [List.map_append, List.nodup_append]
      refine ⟨hnd, by simp, fun z hz w hw e => ?_⟩
      have hw' : w = x := by simpa using hw
      subst hw'
      subst e
      obtain ⟨y, hy, rfl⟩ := List.mem_map.mp hz
      rw [tm_lkp hnd hy] at h1
      cases h1
  | nobell _ => exact ⟨hx, hn, hnd, by omega⟩
  | take _ => exact ⟨trivial, fun y hy => hn y (List.mem_filter.mp hy).1, hnd.sublist (List.filter_sublist.map _), by have := List.length_filter_le (fun y : Str × Int => !decide (y.1 = x)) ts; unfold dropT; omega⟩
  | pastD _ => exact ⟨trivial, hn, hnd, by omega⟩
  | @due ks _ p _ =>
    refine ⟨fun k hk => ?_, fun y hy => hn y (List.mem_filter.mp hy).1, hnd.sublist (List.filter_sublist.map _), by have := List.length_filter_le (fun y : Str × Int => !decide (y.2 ≤ t)) ts; omega⟩
    obtain ⟨y, hy, rfl⟩ := List.mem_map.mp (p.mem_iff.mp hk)
    exact hn y (List.mem_filter.mp hy).1
  | timeN _ => exact ⟨trivial, hn, hnd, by omega⟩
  | timeS _ => exact ⟨trivial, hn, hnd, by omega⟩
  | leastN _ => exact ⟨trivial, hn, hnd, by omega⟩
  | leastS _ _ => exact ⟨trivial, hn, hnd, by omega⟩
theorem pn_make0 {X : Cx} {k : Nat} {f C : Addr} {ps : List Str} {sp : Sp} {dvs : List V} {x : Str} {p pos : Pos} (M : Mk X.K C f) (F : Cal X.prog X.w X.K X.mg X.base k f ps dvs sp) (hr : Room (k + 1) X.A) (hg : Gl X x) (hm : X.mg x = some (.ref C))
    (hdb : (x == ("__debug__" : Str)) = false := by decide) : PE X (.Call (.Name x p) [] [] pos) (tMakeN C sp dvs E0 tNil) := by
  rw [tMakeN_eq]
  obtain ⟨fd, ds, F, hb, hd⟩ := F.ex
  exact pe_make0 M F hr hg hm hb hd pass0 hdb
theorem ok_law (T : Txt K mg a) : FnOk P w K mg base CX0 9 a.f_law a.fd_law ["_law_script"] (sp_law K) := by
  have n1 := T.na_Row_now; have n2 := T.na_Row_times; have cl := T.cl_Row
  have ty := T.ty_Row; have isw := T.is_Row_Waits
  have c__law_cell_at := cal_law_cell_at (P := P) (w := w) (base := base) T
  have c_Row_0 := cal_Row_0 (P := P) (w := w) (base := base) T
  have c_Row_1 := cal_Row_1 (P := P) (w := w) (base := base) T
  have c_Row_all_of := cal_allof (P := P) (w := w) (base := base) T
  have c__law_whole := cal_whole (P := P) (w := w) (base := base) T
  have c__law_pairs_are := cal_pairs (P := P) (w := w) (base := base) T
  have c__law_deed := cal_deed (P := P) (w := w) (base := base) T
  have c__law_due := cal_lawdue (P := P) (w := w) (base := base) T
  have c__law_asked := cal_asked (P := P) (w := w) (base := base) T
  have c__law_alike := cal_alike (P := P) (w := w) (base := base) T
  refine T.F_law.ok sc_law (fun vs H Q E h => ?_) (fun cdv A outer s H vs Q E hr h => ?_)
  · obtain ⟨_, _, rfl, _⟩ := h; rfl
  · obtain ⟨l, ns, rfl, hl, hn, q⟩ := h
    refine ⟨_, (pss_cut (ps_set (i := 1) sc_law.nd rfl (Or.inl rfl) (pn_call c__law_cell_at (hr.mono (by decide)) rfl T.mg__law_cell_at T.kp__law_cell_at (pa_cons (pv 0) (pa_cons pe_int pa_nil))))
      (pss_cut (ps_set (i := 2) sc_law.nd rfl (Or.inl rfl) pe_int)
      (pss_cut (ps_set (i := 3) sc_law.nd rfl (Or.inl rfl) (pn_make0 T.M_Row c_Row_0 (hr.mono (by decide)) rfl T.mg_Row))
      (pss_cutM (ps_if (pt_cmpR op_gt (pe_op op_modP (pn_call c__law_cell_at (hr.mono (by decide)) rfl T.mg__law_cell_at T.kp__law_cell_at (pa_cons (pv 0) (pa_cons pe_int pa_nil))) pe_int) pe_int (nomark _))
        (pss_cut (ps_set (i := 2) sc_law.nd rfl (Or.inl rfl) (pe_op op_modP (pe_op op_fdivB (pn_call c__law_cell_at (hr.mono (by decide)) rfl T.mg__law_cell_at T.kp__law_cell_at (pa_cons (pv 0) (pa_cons pe_int pa_nil))) pe_int) (pe_op op_pow pe_int pe_int)))
        (pss_one (ps_set (i := 3) sc_law.nd rfl (Or.inl rfl) (pn_make T.M_Row c_Row_1 (hr.mono (by decide)) rfl T.mg_Row (pa_cons (pv 2) pa_nil)))))
        pss_nil)
      (pss_cut (ps_set (i := 4) sc_law.nd rfl (Or.inl rfl) pe_dnewK)
      (pss_cut (ps_for PassesOwn.never rfl (pi_enum rfl T.no_enumerate (pa_cons (pe_slice sl_list (pv 0) (po_some pe_int) (po_some pe_int)) pa_nil)) (pg_tup (n := 2) rfl (pgs_cons (pg_name (i := 5) sc_law.nd rfl (Or.inl rfl)) (pgs_cons (pg_name (i := 6) sc_law.nd rfl (Or.inl rfl)) pgs_nil)))
        (pss_cut (ps_set (i := 7) sc_law.nd rfl (Or.inl rfl) (pn_call c__law_deed (hr.mono (by decide)) rfl T.mg__law_deed T.kp__law_deed (pa_cons (pv 6) (pa_cons (pv 5) (pa_cons (pv 1) (pa_cons (pv 4) (pa_cons (pv 2) pa_nil)))))))
        (pss_cut (ps_set (i := 8) sc_law.nd rfl (Or.inl rfl) (pn_call c__law_due (hr.mono (by decide)) rfl T.mg__law_due T.kp__law_due (pa_cons (pv 4) (pa_cons (pv 7) (pa_cons (pv 2) pa_nil)))))
        (pss_cut (ps_if (pt_not (pt_truth (pn_call c__law_alike (hr.mono (by decide)) rfl T.mg__law_alike T.kp__law_alike (pa_cons (pn_call c__law_asked (hr.mono (by decide)) rfl T.mg__law_asked T.kp__law_asked (pa_cons (pv 3) (pa_cons (pv 7) pa_nil))) (pa_cons (pv 8) pa_nil))) (fun _ => rfl)))
          (pss_one (ps_ret pe_bl))
          pss_nil)
        (pss_cutM (ps_if (PW.pt (pw_and (pt_cmpR (op_eqA hr.hu8) (pe_ix ix_K (pv 7) pe_int (fun _ _ => rfl)) pe_str (nomark _)) (pw_and1 (pt_cmpR (op_eqA hr.hu8) (pe_ix ix_K (pv 8) pe_int (fun _ _ => rfl)) pe_str (nomark _)))))
          (pss_one (ps_set (i := 2) sc_law.nd rfl (Or.inl rfl) (pe_ix ix_K (pv 7) pe_int (fun _ _ => rfl))))
          pss_nil)
        (pss_cut (ps_set (i := 9) sc_law.nd rfl (Or.inl rfl) (pn_meth0 (pv 3) T.cl_Row T.m_Row_all_of c_Row_all_of (hr.mono (by decide))))
        (pss_cut (ps_if (pt_not (pt_truth (pn_call c__law_pairs_are (hr.mono (by decide)) rfl T.mg__law_pairs_are T.kp__law_pairs_are (pa_cons (pv 9) (pa_cons (pe_callB call_sortP rfl T.no_sorted PyProof.Rows.boot_sorted (pa_cons (pe_thaw (pe_lc (T := ["_law_one", "_law_when"]) (M := ["_law_script", "_law_style", "_law_now", "_law_told", "_law_model", "_law_k", "_law_cell", "_law_deed_here", "_law_due_here", "_law_held"]) (lcn (defScope s_law) ["_law_script", "_law_style", "_law_now", "_law_told", "_law_model", "_law_k", "_law_cell", "_law_deed_here", "_law_due_here", "_law_held"] rfl rfl (by decide +kernel)) rfl (pi_items (pv 4)) (fun _ _ _ _ _ => (pg_tupK (K := K) (n := 2) rfl rfl (pgs_cons (pg_name (i := 0) (show List.Nodup (["_law_one", "_law_when", "_law_script", "_law_style", "_law_now", "_law_told", "_law_model", "_law_k", "_law_cell", "_law_deed_here", "_law_due_here", "_law_held"] : List Str) by decide +kernel) rfl (Or.inl rfl)) (pgs_cons (pg_name (i := 1) (show List.Nodup (["_law_one", "_law_when", "_law_script", "_law_style", "_law_now", "_law_told", "_law_model", "_law_k", "_law_cell", "_law_deed_here", "_law_due_here", "_law_held"] : List Str) by decide +kernel) rfl (Or.inl rfl)) pgs_nil)))) (gown_tup (gsown_cons (by decide) (gsown_cons (by decide) gsown_nil))) (fun _ _ _ _ _ => pif_nil) (fun _ _ _ _ _ => (pe_tupD (pa_cons (pv 1) (pa_cons (pv 0) pa_nil)))))) pa_nil)) pa_nil))) (fun _ => rfl)))
          (pss_one (ps_ret pe_bl))
          pss_nil)
        (pss_cut (ps_expr (pe_bm0 PySem.F.plainAttrs_list PySem.F.slot_list_clear PySem.F.type_list_clear mt_clear (pv 9)))
        (pss_one (ps_if (PW.pt (pw_or (pt_not (pt_truth (pn_call c__law_whole (hr.mono (by decide)) rfl T.mg__law_whole T.kp__law_whole (pa_cons (pe_fld (pv 3) rfl) pa_nil)) (fun _ => rfl))) (pw_or1 (pt_cmpR (op_neA hr.hu8) (pe_fld (pv 3) rfl) (pv 2) (nomark _)))))
          (pss_one (ps_ret pe_bl))
          pss_nil))))))))))
      (pss_one (ps_ret (pe_callB call_isi rfl T.no_isinstance PyProof.Rows.boot_isinstance (pa_cons (pv 3) (pa_cons (pe_glob (v := .ref a.C_Waits) rfl T.mg_Waits rfl) pa_nil))))))))))), ?_⟩
    repeat' (walk_at "rd1")
    refine u_wmake rfl (fun v0 H1 d0 sm1 hn1 hw0 => ?_)
    have hl1 : SqL K H1 l (ns.map V.int) := by walk_at "sql"
    repeat' (walk_at "rd1")
    refine r_cutM (fun σ' H2 => Same H H2 ∧ ∃ (v : V) (d : Addr) (n : Int), WAt a.C_Row H2 v d n [] ∧ σ' = [some (.ref l), some (.int (cell ns (Int.toNat 0))), some (.int n), some v, none, none, none, none, none, none]) ?_ ?_
    · repeat' (walk_at "rd1")
      · refine u_wmake rfl (fun v H2 d sm2 hn2 hw2 => ?_)
        repeat' (walk_at "rd1")
        exact ⟨sm1.trans sm2, v, d, _, hw2, rfl⟩
      · exact ⟨sm1, v0, d0, 0, hw0, rfl⟩
    rintro σ' H2 ⟨sm2, v, d, n, hw, rfl⟩
    have hl2 : SqL K H2 l (ns.map V.int) := Same.seq sm2 hl
    repeat' (walk_at "rd1")
    rename_i md H3 sm3 hn3 hmd
    have hl3 : SqL K H3 l (ns.map V.int) := Same.seq sm3 hl2
    have hw3 := hw.keeps sm3
    have hdm : d ≠ md := hw.dat.ne hn3
    obtain ⟨p, dx, rfl, hp3⟩ := hw3.ins
    have hpd : p ≠ d := by obtain ⟨kvs, e3, _⟩ := hw3.dat; exact ne_of hp3 e3 (by intro y; cases y)
    have hpm : p ≠ md := by obtain ⟨kvs, e3, _⟩ := hmd; exact ne_of hp3 e3 (by intro y; cases y)
    refine r_cutN 2 59 hl3 (fun q4 H4 sm4 hn4 hq4 => ?_)
    have hqp : q4 ≠ p := Ne.symm (ne_of_none hp3 hn4)
    have hqd : q4 ≠ d := Ne.symm (hw3.dat.ne hn4)
    have hqm : q4 ≠ md := Ne.symm (hmd.ne hn4)
    have hw4 := hw3.keeps sm4
    have hmd4 := hmd.keeps sm4
    have hlen : ((ns.drop 2).take (59 - 2)).length ≤ 57 := by rw [List.length_take]; omega
    generalize (ns.drop 2).take (59 - 2) = cs at *
    repeat' (walk_at "rd1")
    refine forEI (Hb := H4) hq4.dv (fun j σ' H' => Mv [p, d, md] H4 H' ∧ ∃ n ts z5 z6 z7 z8 z9, σ' = [some (.ref l), some (.int (cell ns (Int.toNat 0))), some (.int n), some (.ref p), some (.ref md), z5, z6, z7, z8, z9] ∧ WAt a.C_Row H' (.ref p) d n ts ∧ DAt H' md (tmD ts) ∧ (∀ y ∈ ts, NmS y.1) ∧ (ts.map (·.1)).Nodup ∧ ts.length ≤ j) ⟨Mv.refl, n, [], none, none, none, none, none, rfl, hw4, hmd4, by simp, by simp, by simp⟩ (fun i σ' H' _ ⟨mv, _⟩ a' xs e hx => by cases e; exact mv.sq (by simp [hqp, hqd, hqm]) hx) ?_ ?_
    · rintro i c t0 σ' H5 hc ⟨mv5, n, ts, z5, z6, z7, z8, z9, rfl, hw5, hm5, hnm, hnd, htl⟩ ht0
      have hi57 : i < 57 := by have := (List.getElem?_eq_some_iff.mp hc).1; omega
      have sm6 : Same H5 (upd H5 t0 (.tup [.int (i : Int), .int c])) := same_upd ht0
      have hpair : Dv (upd H5 t0 (.tup [.int (i : Int), .int c])) (.ref t0) (.tuple [.int (i : Int), .int c]) := .tup upd_same (.cons (.int _) (.cons (.int _) .nil))
      generalize upd H5 t0 (.tup [.int (i : Int), .int c]) = H6 at *
      refine r_unpP hpair (fun w1 w2 f1 f2 => ?_)
      obtain rfl := f1.int_inv
      obtain rfl := f2.int_inv
      have hm6 := hm5.keeps sm6
      have hw6 := hw5.keeps sm6
      repeat' (walk_at "rd1")
      refine u_deed hm6 (by omega) hnm (by omega) (by omega) (fun v1 H7 k x t sm7 hx hv1 => ?_)
      have hm7 := hm6.keeps sm7
      have hw7 := hw6.keeps sm7
      repeat' (walk_at "rd1")
      refine ⟨md, v1, n, ts, k, x, t, rfl, hm7, hv1, by omega, hnd, fun v2 H8 r ts' n' mv8 hm8 stp hv2 => ?_⟩
      have hv1' := mv8.dat (d := deedD (wkS k) x t) rfl hv1
      have hw8 := hw7.mvS mv8 (by simpa using hpm) (by simpa using hdm)
      repeat' (walk_at "rd1")
      refine ⟨p, d, v1, n, ts, k, x, t, rfl, hw8, hv1', hx, by omega, hnd, fun v3 H9 r' ts'' n'' mv9 hw9 stp' hv3 => ?_⟩
      obtain ⟨rfl, rfl, rfl⟩ := stp.det stp'
      obtain ⟨rok, hnm', hnd', htl'⟩ := stp.ok hx hnm hnd
      have hv1'' := mv9.dat (d := deedD (wkS k) x t) rfl hv1'
      have hm9 : DAt H9 md (tmD ts') := hm8.mv mv9 (by simp [Ne.symm hpm, Ne.symm hdm])
      have hv2' := res_mv hv2 mv9 (fun b hb xs hR => by
        have hb' : b = p ∨ b = d := by simpa using hb
        rcases hb' with rfl | rfl
        · obtain ⟨p', dx', e1, e2⟩ := hw8.ins
          cases e1
          rcases hR with z | ⟨o, z⟩ <;> (rw [e2] at z; cases z)
        · obtain ⟨kvs, e2, _⟩ := hw8.dat
          rcases hR with z | ⟨o, z⟩ <;> (rw [e2] at z; cases z))
      repeat' (walk_at "rd1")
      refine ⟨v3, v2, r, rfl, hv3, hv2', rok, fun HA smA => ?_⟩
      have hwA := hw9.keeps smA
      have hmA := hm9.keeps smA
      have hv1A := hv1''.keeps smA
      have hv2A := hv2'.keeps smA
      repeat' (walk_at "rd1")
      refine r_cutM (fun σ' HB => HB = HA ∧ σ' = [some (.ref l), some (.int (cell ns (Int.toNat 0))), some (.int n'), some (.ref p), some (.ref md), some (.int (i : Int)), some (.int c), some v1, some v2, z9]) ?_ ?_
      · clear stp' hv3 hv2' hv1'' hv1' hv1 hv2
        cases stp <;> (simp only [deedD, wkS, resD] at hv1A hv2A; repeat' (walk_at "rd1")) <;> exact ⟨rfl, rfl⟩
      rintro σ' HB ⟨rfl, rfl⟩
      have hiA := hwA.ins
      repeat' (walk_at "rd1")
      refine u_allof hwA (by omega) (fun qh HC ks smC hnC hpC hsC hqC => ?_)
      have hmC := hmA.keeps smC
      repeat' (walk_at "rd1")
      refine r_lcI hmC (fun R hR => ?_) (fun _ => true) wpD (by rw [tmD_len]; omega) wpD_imm (fun y c Hf H2 N hc mvf hrd sm2 hy yes no => ?_) (fun q1 HD smD hnD hqD => ?_)
      · repeat' (walk_at "rd1")
        exact hR
      · obtain ⟨z, hz, rfl⟩ := List.mem_map.mp hc
        refine r_unpP hy (fun w1 w2 f1 f2 => ?_)
        obtain rfl := f1.str_inv
        obtain rfl := f2.int_inv
        refine r_lct (fun hb => ?_) (fun hb => by cases hb)
        repeat' (walk_at "rd1")
        exact yes rfl _ _ (by walk_at "same") (by walk_at "dat")
      have hqD' : Dv HD (.ref q1) (.list ((ts'.map swp).map pairD)) := by
        have := hqD.dv
        rw [fil_all] at this
        unfold tmD at this
        rw [List.map_map] at this
        rw [List.map_map]; exact this
      repeat' (walk_at "rd1")
      refine r_sortP hqD' (by rw [List.length_map]; omega) (fun q2 HE ks2 smE hnE hpE hsE hqE => ?_)
      obtain rfl := srt_unique (hpE.trans hpC.symm) hsE hsC
      have hkN : ∀ k ∈ ks2, NmS k.2 := fun k hk => by
        obtain ⟨y, hy, rfl⟩ := List.mem_map.mp (hpC.mem_iff.mp hk)
        exact hnm' y hy
      repeat' (walk_at "rd1")
      refine u_pairs (ks := ks2) ((hqC.keeps smD).keeps smE).dv hqE.dv hkN (fun HF smF => ?_)
      have hqF := ((hqC.keeps smD).keeps smE).keeps smF
      have smBF : Same HB HF := ((smC.trans smD).trans smE).trans smF
      have hwF := hwA.keeps smBF
      have hmF := hmA.keeps smBF
      repeat' (walk_at "rd1")
      rename_i HG mvG hqG
      have mvB : Mv [p, d, md] H4 HB := by
        refine Mv.stepS (Mv.step (Mv.step (Mv.stepS (Mv.stepS mv5 sm6) sm7) mv8 fun b hb => .inl ?_) mv9 fun b hb => .inl ?_) smA
        · have : b = md := by simpa using hb
          simp [this]
        · have : b = p ∨ b = d := by simpa using hb
          rcases this with rfl | rfl <;> simp
      have hqp2 : p ≠ qh := by obtain ⟨p', dx', e1, e2⟩ := hwA.ins; cases e1; exact ne_of_none e2 hnC
      have hqd2 : d ≠ qh := hwA.dat.ne hnC
      have hqm2 : md ≠ qh := hmA.ne hnC
      have hwG := hwF.mvS mvG (by simpa using hqp2) (by simpa using hqd2)
      have hmG : DAt HG md (tmD ts') := hmF.mv mvG (by simpa using hqm2)
      have hiG := hwG.ins
      have mvAll : Mv [p, d, md] H4 HG := Mv.step (mvB.stepS smBF) mvG fun b hb => .inr (by
        have : b = qh := by simpa using hb
        rw [this]; exact mvB.none hnC)
      repeat' (walk_at "rd1")
      exact ⟨mvAll, n', ts', _, _, _, _, _, rfl, hwG, hmG, hnm', hnd', by omega⟩
    · rintro σ' H5 ⟨mv5, n, ts, z5, z6, z7, z8, z9, rfl, hw5, hm5, hnm, hnd, htl⟩
      have hi5 := hw5.ins
      repeat' (walk_at "rd1")
      exact q _
end
end My
open PySem PySem.W PyProof.Rows
set_option maxRecDepth 100000 in
set_option maxHeartbeats 0 in
theorem PySem.Challenge.cw_wakefew_k13_row_of_deeds_holds : PySem.Challenge.rw_wakefew_k13_row_of_deeds.Holds := by
  w_on; o_law; k_head; (case hw => w_witness2)
  k_fill
  refine L2.walk_ofK (l := PySem.Challenge.rw_wakefew_k13_row_of_deeds) (n := 63) (k := 14) (x := "_law_script") (CX := L2.CX0) (sp := My.sp_law) rfl (by decide) rfl ⟨rfl, by decide, by decide⟩ (fun w h Y => PySem.W.kIn_of Y) ?F ?S ?C
  case F =>
    intro w mg fa h KX G hmg
    have T : ∃ a : My.Ad, a.f_law = a.f_law ∧ My.Txt (L2.KOf KX) mg a := by
      dsimp only [L2.KOf]
      refine' My.txt_mk KX G ?aC_Waits ?aC_Row ?aC_NoBell ?aC_Past ?aC_Twice ?aC_WakeError ?hgg ?htt ?a_Twice___init__ ?l_Twice___init__ ?c_Twice___init__ ?k_Twice___init__ ?i_Twice___init__ ?a_NoBell___init__ ?l_NoBell___init__ ?c_NoBell___init__ ?k_NoBell___init__ ?i_NoBell___init__ ?a_Waits___init__ ?l_Waits___init__ ?c_Waits___init__ ?k_Waits___init__ ?i_Waits___init__ ?t_Waits___init__ ?a_Waits_put ?l_Waits_put ?c_Waits_put ?k_Waits_put ?i_Waits_put ?a_Waits_take ?l_Waits_take ?c_Waits_take ?k_Waits_take ?i_Waits_take ?a_Waits_due ?l_Waits_due ?c_Waits_due ?k_Waits_due ?i_Waits_due ?a_Waits_least ?l_Waits_least ?c_Waits_least ?k_Waits_least ?i_Waits_least ?a_Waits_time_of ?l_Waits_time_of ?c_Waits_time_of ?k_Waits_time_of ?i_Waits_time_of ?a_Waits_all_of ?l_Waits_all_of ?c_Waits_all_of ?k_Waits_all_of ?i_Waits_all_of ?a_Waits_check_waits ?l_Waits_check_waits ?c_Waits_check_waits ?k_Waits_check_waits ?i_Waits_check_waits ?a_Row_enter ?l_Row_enter ?c_Row_enter ?k_Row_enter ?i_Row_enter ?a_Row_leave ?l_Row_leave ?c_Row_leave ?k_Row_leave ?i_Row_leave ?a_Row_pass_on ?l_Row_pass_on ?c_Row_pass_on ?k_Row_pass_on ?i_Row_pass_on ?a__law_whole ?l__law_whole ?c__law_whole ?k__law_whole ?a__law_cell_at ?l__law_cell_at ?c__law_cell_at ?k__law_cell_at ?a__law_mixed ?l__law_mixed ?c__law_mixed ?k__law_mixed ?a__law_name ?l__law_name ?c__law_name ?k__law_name ?a__law_later ?l__law_later ?c__law_later ?k__law_later ?a__law_deed ?l__law_deed ?c__law_deed ?k__law_deed ?a__law_due ?l__law_due ?c__law_due ?k__law_due ?a__law_asked ?l__law_asked ?c__law_asked ?k__law_asked ?a__law_pairs_are ?l__law_pairs_are ?c__law_pairs_are ?k__law_pairs_are ?a__law_alike ?l__law_alike ?c__law_alike ?k__law_alike ?a_law ?l_law ?c_law ?k_law ?pg_Waits ?hd_Waits ?po_Waits ?sa_Waits ?mk_Waits ?kc_Waits ?t1_Waits ?t2_Waits ?t3_Waits ?is_Waits_Waits ?pg_Row ?hd_Row ?po_Row ?sa_Row ?na_Row_now ?na_Row_times ?mk_Row ?kc_Row ?in_Row ?im_Row_put ?im_Row_take ?im_Row_due ?im_Row_least ?im_Row_time_of ?im_Row_all_of ?im_Row_check_waits ?t1_Row ?t2_Row ?t3_Row ?is_Row_Waits ?nl_NoBell ?t2_NoBell ?t3_NoBell ?x_Past ?t2_Past ?t3_Past ?nl_Twice ?t2_Twice ?t3_Twice ?x_WakeError ?t2_WakeError ?t3_WakeError ?ga_NoBell ?gn_NoBell ?mb_NoBell ?hd_NoBell ?t1_NoBell ?vv_NoBell ?sa_NoBell ?tn_NoBell ?fn_NoBell ?is_NoBell_NoBell ?is_NoBell_Past ?nq_NoBell_Past ?is_NoBell_Twice ?nq_NoBell_Twice ?is_NoBell_WakeError ?ga_Past ?gn_Past ?mb_Past ?hd_Past ?t1_Past ?vv_Past ?is_Past_NoBell ?nq_Past_NoBell ?is_Past_Past ?is_Past_Twice ?nq_Past_Twice ?is_Past_WakeError ?ga_Twice ?gn_Twice ?mb_Twice ?hd_Twice ?t1_Twice ?vv_Twice ?sa_Twice ?tn_Twice ?fn_Twice ?is_Twice_NoBell ?nq_Twice_NoBell ?is_Twice_Past ?nq_Twice_Past ?is_Twice_Twice ?is_Twice_WakeError ?ib1_WakeError ?ib2_WakeError ?ib3_WakeError ?no_bool ?no_enumerate ?no_int ?no_isinstance ?no_len ?no_list ?no_max ?no_min ?no_sorted ?no_str ?no_tuple
      (case aC_Waits => k_is)
      (case aC_Row => k_is)
      (case aC_NoBell => k_is)
      (case aC_Past => k_is)
      (case aC_Twice => k_is)
      (case aC_WakeError => k_is)
      (case hgg => k_is)
      (case htt => k_is)
      (case a_Twice___init__ => k_is)
      (case l_Twice___init__ => k_is)
      (case c_Twice___init__ => k_is)
      (case k_Twice___init__ => k_is)
      (case i_Twice___init__ => k_is)
      (case a_NoBell___init__ => k_is)
      (case l_NoBell___init__ => k_is)
      (case c_NoBell___init__ => k_is)
      (case k_NoBell___init__ => k_is)
      (case i_NoBell___init__ => k_is)
      (case a_Waits___init__ => k_is)
      (case l_Waits___init__ => k_is)
      (case c_Waits___init__ => k_is)
      (case k_Waits___init__ => k_is)
      (case i_Waits___init__ => k_is)
      (case t_Waits___init__ => k_is)
      (case a_Waits_put => k_is)
      (case l_Waits_put => k_is)
      (case c_Waits_put => k_is)
      (case k_Waits_put => k_is)
      (case i_Waits_put => k_is)
      (case a_Waits_take => k_is)
      (case l_Waits_take => k_is)
      (case c_Waits_take => k_is)
      (case k_Waits_take => k_is)
      (case i_Waits_take => k_is)
      (case a_Waits_due => k_is)
      (case l_Waits_due => k_is)
      (case c_Waits_due => k_is)
      (case k_Waits_due => k_is)
      (case i_Waits_due => k_is)
      (case a_Waits_least => k_is)
      (case l_Waits_least => k_is)
      (case c_Waits_least => k_is)
      (case k_Waits_least => k_is)
      (case i_Waits_least => k_is)
      (case a_Waits_time_of => k_is)
      (case l_Waits_time_of => k_is)
      (case c_Waits_time_of => k_is)
      (case k_Waits_time_of => k_is)
      (case i_Waits_time_of => k_is)
      (case a_Waits_all_of => k_is)
      (case l_Waits_all_of => k_is)
      (case c_Waits_all_of => k_is)
      (case k_Waits_all_of => k_is)
      (case i_Waits_all_of => k_is)
      (case a_Waits_check_waits => k_is)
      (case l_Waits_check_waits => k_is)
      (case c_Waits_check_waits => k_is)
      (case k_Waits_check_waits => k_is)
      (case i_Waits_check_waits => k_is)
      (case a_Row_enter => k_is)
      (case l_Row_enter => k_is)
      (case c_Row_enter => k_is)
      (case k_Row_enter => k_is)
      (case i_Row_enter => k_is)
      (case a_Row_leave => k_is)
      (case l_Row_leave => k_is)
      (case c_Row_leave => k_is)
      (case k_Row_leave => k_is)
      (case i_Row_leave => k_is)
      (case a_Row_pass_on => k_is)
      (case l_Row_pass_on => k_is)
      (case c_Row_pass_on => k_is)
      (case k_Row_pass_on => k_is)
      (case i_Row_pass_on => k_is)
      (case a__law_whole => k_is)
      (case l__law_whole => k_is)
      (case c__law_whole => k_is)
      (case k__law_whole => k_is)
      (case a__law_cell_at => k_is)
      (case l__law_cell_at => k_is)
      (case c__law_cell_at => k_is)
      (case k__law_cell_at => k_is)
      (case a__law_mixed => k_is)
      (case l__law_mixed => k_is)
      (case c__law_mixed => k_is)
      (case k__law_mixed => k_is)
      (case a__law_name => k_is)
      (case l__law_name => k_is)
      (case c__law_name => k_is)
      (case k__law_name => k_is)
      (case a__law_later => k_is)
      (case l__law_later => k_is)
      (case c__law_later => k_is)
      (case k__law_later => k_is)
      (case a__law_deed => k_is)
      (case l__law_deed => k_is)
      (case c__law_deed => k_is)
      (case k__law_deed => k_is)
      (case a__law_due => k_is)
      (case l__law_due => k_is)
      (case c__law_due => k_is)
      (case k__law_due => k_is)
      (case a__law_asked => k_is)
      (case l__law_asked => k_is)
      (case c__law_asked => k_is)
      (case k__law_asked => k_is)
      (case a__law_pairs_are => k_is)
      (case l__law_pairs_are => k_is)
      (case c__law_pairs_are => k_is)
      (case k__law_pairs_are => k_is)
      (case a__law_alike => k_is)
      (case l__law_alike => k_is)
      (case c__law_alike => k_is)
      (case k__law_alike => k_is)
      (case a_law => k_is)
      (case l_law => k_is)
      (case c_law => k_is)
      (case k_law => k_is)
      (case pg_Waits => k_is)
      (case hd_Waits => k_is)
      (case po_Waits => k_is)
      (case sa_Waits => k_is)
      (case mk_Waits => k_is)
      (case kc_Waits => k_is)
      (case t1_Waits => k_is)
      (case t2_Waits => k_is)
      (case t3_Waits => k_is)
      (case is_Waits_Waits => k_is)
      (case pg_Row => k_is)
      (case hd_Row => k_is)
      (case po_Row => k_is)
      (case sa_Row => k_is)
      (case na_Row_now => k_is)
      (case na_Row_times => k_is)
      (case mk_Row => k_is)
      (case kc_Row => k_is)
      (case in_Row => k_is)
      (case im_Row_put => k_is)
      (case im_Row_take => k_is)
      (case im_Row_due => k_is)
      (case im_Row_least => k_is)
      (case im_Row_time_of => k_is)
      (case im_Row_all_of => k_is)
      (case im_Row_check_waits => k_is)
      (case t1_Row => k_is)
      (case t2_Row => k_is)
      (case t3_Row => k_is)
      (case is_Row_Waits => k_is)
      (case nl_NoBell => k_is)
      (case t2_NoBell => k_is)
      (case t3_NoBell => k_is)
      (case x_Past => k_exc)
      (case t2_Past => k_is)
      (case t3_Past => k_is)
      (case nl_Twice => k_is)
      (case t2_Twice => k_is)
      (case t3_Twice => k_is)
      (case x_WakeError => k_exc)
      (case t2_WakeError => k_is)
      (case t3_WakeError => k_is)
      (case ga_NoBell => k_is)
      (case gn_NoBell => k_is)
      (case mb_NoBell => k_is)
      (case hd_NoBell => k_is)
      (case t1_NoBell => k_is)
      (case vv_NoBell => k_is)
      (case sa_NoBell => k_is)
      (case tn_NoBell => k_is)
      (case fn_NoBell => k_is)
      (case is_NoBell_NoBell => k_is)
      (case is_NoBell_Past => k_is)
      (case nq_NoBell_Past => decide)
      (case is_NoBell_Twice => k_is)
      (case nq_NoBell_Twice => decide)
      (case is_NoBell_WakeError => k_is)
      (case ga_Past => k_is)
      (case gn_Past => k_is)
      (case mb_Past => k_is)
      (case hd_Past => k_is)
      (case t1_Past => k_is)
      (case vv_Past => k_is)
      (case is_Past_NoBell => k_is)
      (case nq_Past_NoBell => decide)
      (case is_Past_Past => k_is)
      (case is_Past_Twice => k_is)
      (case nq_Past_Twice => decide)
      (case is_Past_WakeError => k_is)
      (case ga_Twice => k_is)
      (case gn_Twice => k_is)
      (case mb_Twice => k_is)
      (case hd_Twice => k_is)
      (case t1_Twice => k_is)
      (case vv_Twice => k_is)
      (case sa_Twice => k_is)
      (case tn_Twice => k_is)
      (case fn_Twice => k_is)
      (case is_Twice_NoBell => k_is)
      (case nq_Twice_NoBell => decide)
      (case is_Twice_Past => k_is)
      (case nq_Twice_Past => decide)
      (case is_Twice_Twice => k_is)
      (case is_Twice_WakeError => k_is)
      (case ib1_WakeError => k_is)
      (case ib2_WakeError => k_is)
      (case ib3_WakeError => k_is)
      (case no_bool => k_is)
      (case no_enumerate => k_is)
      (case no_int => k_is)
      (case no_isinstance => k_is)
      (case no_len => k_is)
      (case no_list => k_is)
      (case no_max => k_is)
      (case no_min => k_is)
      (case no_sorted => k_is)
      (case no_str => k_is)
      (case no_tuple => k_is)
    obtain ⟨a, _, T⟩ := T
    have e0 := hmg.symm.trans T.mg_law
    cases e0
    exact ⟨a.fd_law, fun s u => My.law_binds T s u, fun base kb nb => (My.ok_law T).mono (by decide)⟩
  case S => exact fun K H l ns hl hO hS => ⟨l, ns, rfl, hS, hl, fun _ => rfl⟩
  case C => exact fun H s e s' h => h
