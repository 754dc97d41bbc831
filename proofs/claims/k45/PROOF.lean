import PyProof.Rows.All
import Wide.All
import OpenK.AllK
import Wide.FinOn
import Lean
import PyProof.EqAt
import PyProof.EqKinds
import PyProof.TupleCall
import PySem.Challenge.RW_wakefew_k45_shares_against_wakings
set_option compiler.extract_closed false
set_option Elab.async false
set_option linter.all false
set_option maxRecDepth 100000
namespace L2
open PySem PySem.Spec PyProof.Rows

abbrev Key := Sum Int Str
def keyIs : Key → Value → Bool
  | .inl k, v => Value.isInt k v
  | .inr x, v => Value.isStrOf x v
def keyH (w : World) : Key → Int
  | .inl k => hashInt k
  | .inr x => hashStr w x
theorem keyIs_shape : ∀ {k : Key} {v : Value}, keyIs k v = true → (∃ i t, k = Sum.inl i ∧ v = Value.int i t) ∨ (∃ x t, k = Sum.inr x ∧ v = Value.str x t)
  | .inl i, v, h => by
    obtain ⟨t, e⟩ := Value.isInt_shape (k := i) (v := v) h
    exact .inl ⟨i, t, rfl, e⟩
  | .inr x, v, h => by
    obtain ⟨t, e⟩ := Value.isStrOf_shape (x := x) (v := v) h
    exact .inr ⟨x, t, rfl, e⟩
theorem keyIs_int (i : Int) (t : Tok) : keyIs (.inl i) (.int i t) = true := by simp [keyIs, Value.isInt]
theorem keyIs_str (x : Str) (t : Tok) : keyIs (.inr x) (.str x t) = true := by simp [keyIs, Value.isStrOf]
theorem key_ll (a b : Int) : decide ((Sum.inl a : Key) = Sum.inl b) = (a == b) := by
  by_cases e : a = b
  · subst e; simp
  · have h : ¬ (Sum.inl a : Key) = Sum.inl b := fun q => e (Sum.inl.inj q)
    rw [decide_eq_false h]
    exact (beq_eq_false_iff_ne.mpr e).symm
theorem key_rr (a b : Str) : decide ((Sum.inr a : Key) = Sum.inr b) = decide (a = b) := by
  by_cases e : a = b
  · subst e; simp
  · have h : ¬ (Sum.inr a : Key) = Sum.inr b := fun q => e (Sum.inr.inj q)
    rw [decide_eq_false h, decide_eq_false e]
theorem key_lr (a : Int) (b : Str) : decide ((Sum.inl a : Key) = Sum.inr b) = false := decide_eq_false (fun q => nomatch q)
theorem key_rl (a : Str) (b : Int) : decide ((Sum.inr a : Key) = Sum.inl b) = false := decide_eq_false (fun q => nomatch q)

def mixKind (prog : Program) (w : World) : PySem.KeyKind prog w Key where
  is := keyIs
  hash := keyH w
  inj := fun v a b ha hb => by
    rcases keyIs_shape ha with ⟨i, t, rfl, rfl⟩ | ⟨x, t, rfl, rfl⟩
    · rcases keyIs_shape hb with ⟨j, u, rfl, e⟩ | ⟨y, u, rfl, e⟩
      · injection e with e1 _; rw [e1]
      · exact nomatch e
    · rcases keyIs_shape hb with ⟨j, u, rfl, e⟩ | ⟨y, u, rfl, e⟩
      · exact nomatch e
      · injection e with e1 _; rw [e1]
  byValue := fun k v h => by
    rcases keyIs_shape h with ⟨i, t, rfl, rfl⟩ | ⟨x, t, rfl, rfl⟩ <;> rfl
  pyHash := fun hv h => by
    rcases keyIs_shape hv with ⟨i, t, rfl, rfl⟩ | ⟨x, t, rfl, rfl⟩
    · exact wpAny_pyHash_int h
    · exact wpAny_pyHash_str h
  eqBool := fun hu hv h => by
    rcases keyIs_shape hu with ⟨i, t, rfl, rfl⟩ | ⟨x, t, rfl, rfl⟩
    · rcases keyIs_shape hv with ⟨j, u, rfl, rfl⟩ | ⟨y, u, rfl, rfl⟩
      · rw [key_ll] at h; exact wpAny_eqBool_int h
      · rw [key_lr] at h; exact SeqAt.EqAt.int_str i t y u _ _ _ _ h
    · rcases keyIs_shape hv with ⟨j, u, rfl, rfl⟩ | ⟨y, u, rfl, rfl⟩
      · rw [key_rl] at h; exact SeqAt.EqAt.str_int x t j u _ _ _ _ h
      · rw [key_rr] at h; exact wpAny_eqBool_str h
  «strs» := fun k x t v h => by
    rcases keyIs_shape h with ⟨i, u, rfl, e⟩ | ⟨y, u, rfl, e⟩
    · exact nomatch e
    · injection e with e1 _
      subst e1
      cases v <;> rfl

theorem mixKind_int (prog : Program) (w : World) (i : Int) (t : Tok) : (mixKind prog w).is (.inl i) (.int i t) = true := keyIs_int i t
theorem mixKind_str (prog : Program) (w : World) (x : Str) (t : Tok) : (mixKind prog w).is (.inr x) (.str x t) = true := keyIs_str x t
end L2

namespace L2
open PySem PySem.Spec PyProof.Rows

inductive V where
  | non | bl (b : Bool) | int (i : Int) | str (x : Str) | byt (b : Array UInt8) | flt (b : UInt64) | ref (a : Addr) | ty (n : String)
  deriving DecidableEq

def RelV : V → Value → Prop
  | .non, u => u = Value.none
  | .bl b, u => u = Value.bool b
  | .int i, u => ∃ t, u = Value.int i t
  | .str x, u => ∃ t, u = Value.str x t
  | .byt b, u => ∃ t, u = Value.bytes b t
  | .flt b, u => ∃ t, u = Value.float b t
  | .ref a, u => u = Value.ref a
  | .ty n, u => u = Value.type n

abbrev Vals : List V → List Value → Prop := Paired RelV
theorem Vals.length {xs : List V} {us : List Value} (r : Vals xs us) : xs.length = us.length := Paired.length r
theorem Vals.get : ∀ {xs : List V} {us : List Value} {i : Nat} {x : V}, Vals xs us → xs[i]? = some x → ∃ u, us[i]? = some u ∧ RelV x u
  | _, _, _, _, .nil, e => by simp at e
  | _, _, 0, _, .cons r _, e => by simp at e; subst e; exact ⟨_, rfl, r⟩
  | _, _, i + 1, x, .cons _ t, e => by
    obtain ⟨u, h1, h2⟩ := Vals.get (i := i) (x := x) t (by simpa using e)
    exact ⟨u, by simpa using h1, h2⟩
theorem Vals.set {x : V} {u : Value} (r : RelV x u) : ∀ {xs : List V} {us : List Value} (i : Nat), Vals xs us → Vals (xs.set i x) (us.set i u)
  | _, _, _, .nil => .nil
  | _, _, 0, .cons _ t => .cons r t
  | _, _, i + 1, .cons q t => .cons q (Vals.set r i t)
theorem Vals.append : ∀ {xs ys : List V} {us ws : List Value}, Vals xs us → Vals ys ws → Vals (xs ++ ys) (us ++ ws)
  | _, _, _, _, .nil, s => s
  | _, _, _, _, .cons r t, s => .cons r (Vals.append t s)
theorem Vals.take : ∀ {xs : List V} {us : List Value} (n : Nat), Vals xs us → Vals (xs.take n) (us.take n)
  | _, _, 0, _ => .nil
  | _, _, _ + 1, .nil => .nil
  | _, _, n + 1, .cons r t => .cons r (Vals.take n t)
theorem Vals.drop : ∀ {xs : List V} {us : List Value} (n : Nat), Vals xs us → Vals (xs.drop n) (us.drop n)
  | _, _, 0, r => r
  | _, _, _ + 1, .nil => .nil
  | _, _, n + 1, .cons _ t => Vals.drop n t
def RelO : Option V → Option Value → Prop
  | some v, some u => RelV v u
  | none, none => True
  | _, _ => False
def KV {κ : Type} : List (κ × V) → List (κ × Value) → Prop := Paired fun (p : κ × V) (q : κ × Value) => p.1 = q.1 ∧ RelV p.2 q.2

def kV : Key → V
  | .inl i => .int i
  | .inr x => .str x

inductive HO where
    | lst (xs : List V)
    | tup (xs : List V)
    | dK (kvs : List (Key × V)) | dT (kvs : List (List Key × V))
    | set (S : Int → Bool) (n : Nat)
    | ins (C dx : Addr) (fs : List (Str × V))
    | own (x : Addr)
    | xd (fs : List (Str × V))
    | met (f x : Addr)
    | rng (lo hi : Int)
    | frz (o : Obj) (u : HO)
    | tbl (ps : Array Value)
    | ext (φ : Heap → Prop)

abbrev Hp := Addr → Option HO
def upd (H : Hp) (a : Addr) (o : HO) : Hp := fun b => if b = a then some o else H b
theorem upd_same {H : Hp} {a : Addr} {o : HO} : upd H a o a = some o := by unfold upd; rw [if_pos rfl]
theorem upd_ne {H : Hp} {a b : Addr} {o : HO} (h : b ≠ a) : upd H a o b = H b := by unfold upd; rw [if_neg h]
theorem ne_of {H : Hp} {a b : Addr} {o u : HO} (h : H a = some o) (h' : H b = some u) (d : o ≠ u) : a ≠ b := by
  intro e; subst e; rw [h] at h'; exact d (Option.some.inj h')
theorem ne_of_none {H : Hp} {a b : Addr} {o : HO} (h : H a = some o) (h' : H b = none) : a ≠ b := by
  intro e; subst e; rw [h] at h'; cases h'

section
variable (P : Program) (w : World)
def ObjOk (H : Hp) (h : Heap) (a : Addr) : HO → Prop
  | .lst xs => xs.length ≤ sizeLine ∧ ∃ (its : List Value) (n : Nat), Vals xs its ∧ h.get? a = some { cls := .type "list", data := .seq its.toArray n }
  | .tup xs => xs.length ≤ sizeLine ∧ ∃ its : List Value, Vals xs its ∧ IsTup h a its.toArray
  | .dK kvs => kvs.length ≤ sizeLine ∧ (a == sysModules) = false ∧ ∃ vs, KV kvs vs ∧ h.DictOf (mixKind P w) a vs
  | .dT kvs => kvs.length ≤ sizeLine ∧ (a == sysModules) = false ∧ ∃ xs : List (List Key × Addr × Value),
      Paired (fun (p : List Key × V) (q : List Key × Addr × Value) => p.1 = q.1 ∧ H q.2.1 = some (.tup (p.1.map kV)) ∧ RelV p.2 q.2.2) kvs xs ∧
      ∃ o es ep, h.get? a = some o ∧ o.ExactDict ∧ o.data = .dict es ep ∧ es.toList = xs.map (entryOfKey (tupleKind (mixKind P w))) ∧ (xs.map (·.1)).Nodup
  | .set S n => h.SetOf (intKind P w) a S n
  | .ins C dx fs => H dx = some (.own a) ∧ fs.length ≤ 1000 ∧ dx ≠ a ∧ h.get? a = some (PySem.W.instObj C dx) ∧
      ∃ mA, h.Ns1 dx mA ∧ (∀ f, RelO (fs.lookup f) (mA f)) ∧ PySem.Within mA (fs.map (·.1))
  | .own _ => ∃ o, h.get? a = some o
  | .xd fs => ∃ mA, h.Ns1 a mA ∧ ∀ f, RelO (fs.lookup f) (mA f)
  | .rng lo hi => ∃ t u v, h.get? a = some { cls := .type "range", data := .fields #[.int lo t, .int hi u, .int 1 v] }
  | .frz o u => h.get? a = some o ∧ ObjOk H h a u
  | .tbl ps => h.get? a = some { cls := .none, data := .fields ps }
  | .met f x => h.get? a = some (PySem.W.methodObj (.ref f) (.ref x))
  | .ext φ => φ h ∧ (∃ o, h.get? a = some o) ∧ ∀ h1 h2 : Heap, φ h1 → (∀ o, h1.get? a = some o → h2.get? a = some o) → φ h2
def HOk (H : Hp) (h : Heap) : Prop := ∀ a o, H a = some o → ObjOk P w H h a o
end

section
variable {P : Program} {w : World} {H H' : Hp} {h h' : Heap} {a : Addr} {o : HO}
theorem ObjOk.lt (x : ObjOk P w H h a o) : a < h.objs.size := by
  cases o with
  | lst xs => obtain ⟨_, _, _, _, e⟩ := x; exact Heap.lt_size e
  | tup xs => obtain ⟨_, _, _, p⟩ := x; exact p.lt
  | dK kvs => obtain ⟨_, _, _, _, o, _, _, e, _⟩ := x; exact Heap.lt_size e
  | dT kvs => obtain ⟨_, _, _, _, o, _, _, e, _⟩ := x; exact Heap.lt_size e
  | set S n => obtain ⟨o, _, _, _, e, _⟩ := x; exact Heap.lt_size e
  | ins C dx fs => obtain ⟨_, _, _, e, _⟩ := x; exact Heap.lt_size e
  | own y => obtain ⟨_, e⟩ := x; exact Heap.lt_size e
  | xd fs => obtain ⟨_, ⟨_, _, _, e, _⟩, _⟩ := x; exact Heap.lt_size e
  | rng lo hi => obtain ⟨_, _, _, e⟩ := x; exact Heap.lt_size e
  | frz ob u => obtain ⟨e, _⟩ := x; exact Heap.lt_size e
  | tbl ps => exact Heap.lt_size (show h.get? a = some _ from x)
  | met f y => exact Heap.lt_size (show h.get? a = some _ from x)
  | ext φ => obtain ⟨_, ⟨_, e⟩, _⟩ := x; exact Heap.lt_size e
theorem Paired.mapP {α β : Type} {F G : α → β → Prop} : ∀ {l₁ : List α} {l₂ : List β}, Paired F l₁ l₂ → (∀ a b, F a b → G a b) → Paired G l₁ l₂
  | _, _, .nil, _ => .nil
  | _, _, .cons r t, f => .cons (f _ _ r) (Paired.mapP t f)
theorem ObjOk.stay (x : ObjOk P w H h a o) (k : ∀ b u, (b = a ∨ H b = some (.own a)) → h.get? b = some u → h'.get? b = some u)
    (ho : ∀ b, H b = some (.own a) → H' b = some (.own a)) (ht : ∀ b xs, H b = some (.tup xs) → H' b = some (.tup xs)) : ObjOk P w H' h' a o := by
  induction o with
  | lst xs => obtain ⟨z, its, n, r, e⟩ := x; exact ⟨z, its, n, r, k _ _ (.inl rfl) e⟩
  | tup xs => obtain ⟨z, its, r, ob, e, c⟩ := x; exact ⟨z, its, r, ob, k _ _ (.inl rfl) e, c⟩
  | dK kvs => obtain ⟨z, y, vs, r, ob, es, ep, e, c⟩ := x; exact ⟨z, y, vs, r, ob, es, ep, k _ _ (.inl rfl) e, c⟩
  | dT kvs =>
    obtain ⟨z, y, xs, r, ob, es, ep, e, c⟩ := x
    exact ⟨z, y, xs, Paired.mapP r fun p q z => ⟨z.1, ht _ _ z.2.1, z.2.2⟩, ob, es, ep, k _ _ (.inl rfl) e, c⟩
  | set S n => obtain ⟨ob, es, ep, t, e, c⟩ := x; exact ⟨ob, es, ep, t, k _ _ (.inl rfl) e, c⟩
  | ins C dx fs =>
    obtain ⟨d, z, ne, e, mA, ⟨od, es, ep, e2, c⟩, r⟩ := x
    exact ⟨ho _ d, z, ne, k _ _ (.inl rfl) e, mA, ⟨od, es, ep, k _ _ (.inr d) e2, c⟩, r⟩
  | own y => obtain ⟨ob, e⟩ := x; exact ⟨ob, k _ _ (.inl rfl) e⟩
  | xd fs => obtain ⟨mA, ⟨od, es, ep, e, c⟩, r⟩ := x; exact ⟨mA, ⟨od, es, ep, k _ _ (.inl rfl) e, c⟩, r⟩
  | rng lo hi => obtain ⟨t, u, v, e⟩ := x; exact ⟨t, u, v, k _ _ (.inl rfl) e⟩
  | frz ob u ih => obtain ⟨e, q⟩ := x; exact ⟨k _ _ (.inl rfl) e, ih q⟩
  | tbl ps =>
    have e : h.get? a = some { cls := .none, data := .fields ps } := x
    show h'.get? a = some { cls := .none, data := .fields ps }
    exact k a _ (.inl rfl) e
  | met f y =>
    have e : h.get? a = some (PySem.W.methodObj (.ref f) (.ref y)) := x
    show h'.get? a = some (PySem.W.methodObj (.ref f) (.ref y))
    exact k a _ (.inl rfl) e
  | ext φ => obtain ⟨p, ⟨o, e⟩, st⟩ := x; exact ⟨st _ _ p fun o q => k _ _ (.inl rfl) q, ⟨o, k _ _ (.inl rfl) e⟩, st⟩
theorem HOk.lt (x : HOk P w H h) (e : H a = some o) : a < h.objs.size := (x a o e).lt
theorem HOk.fresh (x : HOk P w H h) (e : h.objs.size ≤ a) : H a = none := by
  cases q : H a with
  | none => rfl
  | some u => exact absurd (Nat.lt_of_lt_of_le (x.lt q) e) (Nat.lt_irrefl _)
theorem HOk.kept (x : HOk P w H h) (k : ∀ b u, h.get? b = some u → h'.get? b = some u) : HOk P w H h' := fun a o e =>
  (x a o e).stay (fun b u _ q => k b u q) (fun _ q => q) fun _ _ q => q
theorem HOk.laid (x : HOk P w H h) (k : ∀ b u, h.get? b = some u → h'.get? b = some u) (hp : h.objs.size ≤ a) (new : ObjOk P w (upd H a o) h' a o) : HOk P w (upd H a o) h' := fun b u e => by
  have hn := x.fresh hp
  by_cases hb : b = a
  · subst hb; rw [upd_same] at e; cases e; exact new
  · rw [upd_ne hb] at e
    exact (x b u e).stay (fun c v _ q => k c v q) (fun c q => by rw [upd_ne (ne_of_none q hn)]; exact q) fun c xs q => by rw [upd_ne (ne_of_none q hn)]; exact q
end

def Rd (H : Hp) (a : Addr) (u : HO) : Prop := H a = some u ∨ ∃ o, H a = some (.frz o u)
theorem Rd.of {H : Hp} {a : Addr} {u : HO} (h : H a = some u) : Rd H a u := .inl h
theorem Rd.ok {P : Program} {w : World} {H : Hp} {h : Heap} {a : Addr} {u : HO} (r : Rd H a u) (x : HOk P w H h) : ObjOk P w H h a u := by
  rcases r with r | ⟨o, r⟩
  · exact x a u r
  · obtain ⟨_, q⟩ := x a _ r
    exact q
def Mut : Option HO → Prop
  | some (.lst _) => True
  | some (.dK _) => True
  | some (.dT _) => True
  | some (.set _ _) => True
  | some (.ins _ _ _) => True
  | some (.ext _) => True
  | _ => False
section
variable {P : Program} {w : World} {H : Hp} {h h' : Heap} {x e : Addr} {o' : HO}
theorem HOk.write (ok : HOk P w H h) (mu : Mut (H x)) (he : e = x ∨ H e = some (.own x)) (k : ∀ b u, b ≠ e → h.get? b = some u → h'.get? b = some u) (heo : ∃ u, h'.get? e = some u)
    (new : ObjOk P w (upd H x o') h' x o') : HOk P w (upd H x o') h' := fun b u q => by
  have nown : ∀ c y, H c = some (.own y) → c ≠ x := fun c y r z => by subst z; rw [r] at mu; exact mu
  have ntup : ∀ c xs, H c = some (.tup xs) → c ≠ x := fun c xs r z => by subst z; rw [r] at mu; exact mu
  by_cases hb : b = x
  · subst hb; rw [upd_same] at q; cases q; exact new
  · rw [upd_ne hb] at q
    by_cases hbe : b = e
    · have q' : H b = some (.own x) := by
        rcases he with z | z
        · exact absurd (hbe.trans z) hb
        · rw [hbe]; exact z
      rw [q] at q'; cases q'
      obtain ⟨v, hv⟩ := heo
      exact ⟨v, by rw [hbe]; exact hv⟩
    · refine (ok b u q).stay (fun c v hc r => k c v ?_ r) (fun c r => by rw [upd_ne (nown c b r)]; exact r) fun c xs r => by rw [upd_ne (ntup c xs r)]; exact r
      rcases hc with rfl | hc
      · exact hbe
      · rintro rfl
        rcases he with z | z
        · exact nown c b hc z
        · rw [hc] at z; cases z; exact hb rfl
end

structure Un (fs ex : List Addr) (H H' : Hp) (h h' : Heap) : Prop where
  keep : ∀ b o, h.get? b = some o → H b = none → b ∉ fs → b ∉ ex → h'.get? b = some o
  slot : ∀ b o, h.get? b = some o → H b = none → b ∈ fs → b ∉ ex → ∃ sl, h'.get? b = some { o with slots := sl }
  free : ∀ b o, h.get? b = some o → H b = none → b ∉ ex → H' b = none
  there : ∀ b o, h.get? b = some o → b ∉ ex → ∃ o', h'.get? b = some o'
  tups : ∀ b xs, H b = some (.tup xs) → H' b = some (.tup xs)
  frzs : ∀ b o u, H b = some (.frz o u) → H' b = some (.frz o u)
  tbls : ∀ b ps, H b = some (.tbl ps) → ∃ more, H' b = some (.tbl (ps ++ more))
section
variable {fs fs' ex ex' : List Addr} {H H1 H2 : Hp} {h h1 h2 h' : Heap} {a x e : Addr} {o : HO}
theorem Un.any (u : Un fs ex H H1 h h1) {b : Addr} {ob : Obj} (q : h.get? b = some ob) (n : H b = none) (hx : b ∉ ex) : ∃ sl, h1.get? b = some { ob with slots := sl } := by
  by_cases hb : b ∈ fs
  · exact u.slot b ob q n hb hx
  · exact ⟨ob.slots, u.keep b ob q n hb hx⟩
theorem Un.kept (k : ∀ b u, h.get? b = some u → h'.get? b = some u) : Un fs ex H H h h' :=
  ⟨fun b ob q _ _ _ => k b ob q, fun b ob q _ _ _ => ⟨ob.slots, k b ob q⟩, fun _ _ _ n _ => n, fun b ob q _ => ⟨ob, k b ob q⟩, fun _ _ q => q, fun _ _ _ q => q, fun _ ps q => ⟨#[], by rw [q]; simp⟩⟩
theorem Un.refl : Un fs ex H H h h := Un.kept fun _ _ q => q
theorem Un.laid (k : ∀ b u, h.get? b = some u → h'.get? b = some u) (hp : h.objs.size ≤ a) (hn : H a = none) : Un fs ex H (upd H a o) h h' where
  keep := fun b u q _ _ _ => k b u q
  slot := fun b u q _ _ _ => ⟨u.slots, k b u q⟩
  free := fun b u q n _ => by rw [upd_ne (Nat.ne_of_lt (Nat.lt_of_lt_of_le (Heap.lt_size q) hp))]; exact n
  there := fun b u q _ => ⟨u, k b u q⟩
  tups := fun b xs q => by rw [upd_ne (ne_of_none q hn)]; exact q
  frzs := fun b u xs q => by rw [upd_ne (ne_of_none q hn)]; exact q
  tbls := fun b ps q => ⟨#[], by rw [upd_ne (ne_of_none q hn), q]; simp⟩
theorem Un.write (mu : Mut (H x)) (he : e = x ∨ H e = some (.own x)) (k : ∀ b u, b ≠ e → h.get? b = some u → h'.get? b = some u) (heo : ∃ u, h'.get? e = some u) : Un fs ex H (upd H x o) h h' := by
  have hx : ∀ b, H b = none → b ≠ x := fun b n z => by subst z; rw [n] at mu; exact mu
  have hb : ∀ b, H b = none → b ≠ e := fun b n z => by
    subst z
    rcases he with r | r
    · exact hx b n r
    · rw [n] at r; cases r
  have hm : ∀ b u, H b = some u → ¬ Mut (some u) → b ≠ x := fun b u q nm z => by subst z; rw [q] at mu; exact nm mu
  refine ⟨fun b u q n _ _ => k b u (hb b n) q, fun b u q n _ _ => ⟨u.slots, k b u (hb b n) q⟩, fun b u q n _ => by rw [upd_ne (hx b n)]; exact n, fun b u q _ => ?_,
    fun b xs q => by rw [upd_ne (hm b _ q fun z => z)]; exact q, fun b u xs q => by rw [upd_ne (hm b _ q fun z => z)]; exact q, fun b ps q => ⟨#[], by rw [upd_ne (hm b _ q fun z => z), q]; simp⟩⟩
  by_cases hbe : b = e
  · subst hbe; exact heo
  · exact ⟨u, k b u hbe q⟩
end

def trk (h : Heap) (H : Hp) : List Addr := (List.range h.objs.size).filter fun a => (H a).isSome
def hidT (h : Heap) (H : Hp) : Heap := PySem.W.hideAll h (trk h H)
theorem hidT_size (h : Heap) (H : Hp) : (hidT h H).objs.size = h.objs.size := PySem.W.hideAll_size _ _
theorem hidT_get {h : Heap} {H : Hp} {b : Addr} {o : Obj} (e : h.get? b = some o) (n : H b = none) : (hidT h H).get? b = some o :=
  PySem.W.hideAll_get _ e fun hm => by
    have q : (H b).isSome = true := (List.mem_filter.mp hm).2
    rw [n] at q; simp at q
theorem of_hidT {h : Heap} {H : Hp} {b : Addr} {o : Obj} (e : (hidT h H).get? b = some o) : h.get? b = some o ∧ H b = none := by
  have e' : h.get? b = some o := PySem.W.of_hideAll (trk h H) e
  refine ⟨e', ?_⟩
  cases q : H b with
  | none => rfl
  | some x =>
    have hm : b ∈ trk h H := List.mem_filter.mpr ⟨List.mem_range.mpr (Heap.lt_size e'), by simp [q]⟩
    have z : (hidT h H).get? b = none := PySem.W.hideAll_none (trk h H) hm
    rw [z] at e; cases e

def allNews (g h : Heap) (L : Addr) : List (Addr × Obj) := (List.range h.objs.size).filterMap fun a => if a = L ∨ (g.get? a).isSome = true then none else (h.get? a).map fun o => (a, o)
def rest (g h : Heap) (L d : Addr) : List (Addr × Obj) := (allNews g h L).filter fun p => decide (p.1 ≠ d)
end L2

namespace L2
open PySem PySem.Spec PyProof.Rows

structure Mod (K : PySem.W.Frag) (mg : Str → Option Value) (base : Heap) : Prop where
  kin : K.In base
  glob : base.Ns mainGlobals mg
  blt : ∃ mb, base.Ns builtinsNs mb ∧ ∀ x : Str, x ≠ "__name__" → mb x = bootBuiltins x
  nolimit : base.NoLimit

structure Cx where
  prog : Program
  w : World
  K : PySem.W.Frag
  mg : Str → Option Value
  base : Heap
  A : Around
  N : List Str
  s₀ : Shared
  H₀ : Hp
  env : Env
  outer : List Env
  stack : List Env
  ex : List Addr
  fn : Str → Bool
  calm : Bool
  pn : List (Addr × Obj)
  xe : Value → Shared → Prop
def frs (l : List Env) : List Addr := l.filterMap (·.frame)
abbrev Cx.fs (X : Cx) : List Addr := frs X.outer

def Vis (sc : Scope) (x : Str) : Prop := sc.names.lookup x = some .local ∨ sc.names.lookup x = some .cell ∨ sc.names.lookup x = some .free
def Loc (sc : Scope) (x : Str) : Prop := sc.names.lookup x = some .local ∨ sc.names.lookup x = some .cell
def Look (env : Env) (h : Heap) (m : Str → Option Value) (x : Str) (u : Value) : Prop :=
  (env.kindOf x = some .local ∧ m x = some u) ∨ ((env.kindOf x = some .cell ∨ env.kindOf x = some .free) ∧ ∃ c, env.cells.lookup x = some c ∧ h.IsCell c (some u))

structure Cx.Ok (X : Cx) : Prop where
  mod : Mod X.K X.mg X.base
  kind : X.env.scope.kind = .function
  glob : X.env.globals = mainGlobals
  blt : X.env.builtins = builtinsNs
  above : X.s₀.heap.objs.size ≤ X.env.locals
  inj : ∀ x y c, X.env.cells.lookup x = some c → X.env.cells.lookup y = some c → x = y
  has : ∀ x, (X.env.kindOf x = some .cell ∨ X.env.kindOf x = some .free) → ∃ c, X.env.cells.lookup x = some c
  cab : ∀ x c, X.fn x = true → X.env.cells.lookup x = some c → X.s₀.heap.objs.size ≤ c
  hd : X.calm = true → X.A.handled = none
  frames : X.A.frames = some X.stack
  stk : X.stack = X.outer ∨ (X.stack = X.env :: X.outer ∧ X.env.frame = some X.env.locals)
  exf : ∀ b ∈ X.ex, b ≠ X.env.locals ∧ ∀ x c, X.env.cells.lookup x = some c → c ≠ b
  bs : ∀ b o, X.base.get? b = some o → X.s₀.heap.get? b = some o ∧ X.H₀ b = none
  bsz : X.base.objs.size ≤ X.s₀.heap.objs.size
  noex : ∀ b o, X.base.get? b = some o → b ∉ X.ex
  exfs : ∀ b ∈ X.ex, b ∉ X.fs
  funs : X.s₀.heap.FunFrames X.base X.outer
  frf : ∀ b ∈ X.fs, X.H₀ b = none

structure Inv (X : Cx) (pins : List (Addr × Obj)) (σ : List (Option V)) (H : Hp) (s : Shared) : Prop where
  ok : X.Ok
  os : s.os = X.s₀.os
  bare : AllBare s.gens
  base : Un X.fs X.ex X.H₀ H X.s₀.heap s.heap
  loc : ∃ m, s.heap.Ns X.env.locals m ∧ ∀ (i : Nat) (x : Str) (v : V), X.N[i]? = some x → σ[i]? = some (some v) → Vis X.env.scope x → ∃ u, RelV v u ∧ Look X.env s.heap m x u
  cell : ∀ x c, X.env.cells.lookup x = some c → ∃ v, s.heap.IsCell c v
  free : H X.env.locals = none
  freeC : ∀ x c, X.env.cells.lookup x = some c → H c = none
  pin : ∀ p ∈ X.pn ++ pins, s.heap.get? p.1 = some p.2 ∧ H p.1 = none ∧ p.1 ≠ X.env.locals ∧ p.1 ∉ X.fs ∧ ∀ v, p.2.data ≠ .cell v
  hok : HOk X.prog X.w H s.heap
  len : σ.length = X.N.length

section
variable {X : Cx} {pins : List (Addr × Obj)} {σ : List (Option V)} {H H' : Hp} {s : Shared} {h' : Heap}

theorem Cx.Ok.nofr (ok : X.Ok) {b : Addr} {o : Obj} (e : X.base.get? b = some o) : b ∉ X.fs := fun hb => by
  have := (ok.funs.mem hb).1
  rw [e] at this; cases this
theorem Inv.bs (I : Inv X pins σ H s) : ∀ b o, X.base.get? b = some o → s.heap.get? b = some o ∧ H b = none := fun b o e =>
  ⟨I.base.keep b o (I.ok.bs b o e).1 (I.ok.bs b o e).2 (I.ok.nofr e) (I.ok.noex b o e), I.base.free b o (I.ok.bs b o e).1 (I.ok.bs b o e).2 (I.ok.noex b o e)⟩
theorem Inv.bk (I : Inv X pins σ H s) : ∀ b o, X.base.get? b = some o → s.heap.get? b = some o := fun b o e => (I.bs b o e).1
theorem Inv.mod (I : Inv X pins σ H s) : Mod X.K X.mg X.base := I.ok.mod
theorem Inv.kIn (I : Inv X pins σ H s) : X.K.In s.heap := I.ok.mod.kin.keeps I.bk
theorem Inv.fr (I : Inv X pins σ H s) : ∃ m, Fr X.base X.env.locals s.heap m :=
  let ⟨m, hn, _⟩ := I.loc
  ⟨m, hn, I.bk, Nat.le_trans I.ok.bsz I.ok.above⟩
theorem Inv.lt (I : Inv X pins σ H s) : X.env.locals < s.heap.objs.size := let ⟨_, hn, _⟩ := I.loc; hn.lt
theorem Inv.sz (I : Inv X pins σ H s) : X.s₀.heap.objs.size ≤ s.heap.objs.size := Nat.le_trans I.ok.above (Nat.le_of_lt I.lt)
theorem Inv.nofs (I : Inv X pins σ H s) {a : Addr} (h : s.heap.objs.size ≤ a) : a ∉ X.fs := fun hb => by
  obtain ⟨_, o, ho, _⟩ := I.ok.funs.mem hb
  exact absurd (Nat.lt_of_lt_of_le (Heap.lt_size ho) (Nat.le_trans I.sz h)) (Nat.lt_irrefl _)
theorem Inv.cne (I : Inv X pins σ H s) : ∀ x c, X.env.cells.lookup x = some c → c ≠ X.env.locals := fun x c e z => by
  obtain ⟨v, o, ho, hd⟩ := I.cell x c e
  obtain ⟨m, ⟨o', es, ep, ho', hd', _⟩, _⟩ := I.loc
  rw [z, ho'] at ho; cases ho; rw [hd'] at hd; cases hd
theorem Inv.funs (I : Inv X pins σ H s) : s.heap.FunFrames X.base X.outer := by
  have all : ∀ (l : List Env), (∀ b ∈ frs l, b ∈ X.fs) → X.s₀.heap.FunFrames X.base l → s.heap.FunFrames X.base l := by
    intro l
    induction l with
    | nil => intro _ _; trivial
    | cons env r ih =>
      intro hs hl
      obtain ⟨hk, ⟨L, o, hf, hn, ho, hd⟩, hr⟩ := hl
      have hL : L ∈ X.fs := hs L (by unfold frs; rw [List.filterMap_cons, hf]; exact List.mem_cons_self)
      obtain ⟨sl, e⟩ := I.base.slot L o ho (I.ok.frf L hL) hL fun z => I.ok.exfs L z hL
      exact ⟨hk, ⟨L, _, hf, hn, e, hd⟩, ih (fun b hb => hs b (by unfold frs; rw [List.filterMap_cons, hf]; exact List.mem_cons_of_mem _ hb)) hr⟩
  exact all X.outer (fun _ hb => hb) I.ok.funs

theorem Inv.stack (I : Inv X pins σ H s) : s.heap.FunFrames X.base X.stack := by
  rcases I.ok.stk with e | ⟨e, hf⟩
  · rw [e]; exact I.funs
  · rw [e]
    obtain ⟨m, hn, _⟩ := I.loc
    refine .cons (by rw [I.ok.kind]; decide) hf hn ?_ I.funs
    exact Heap.get?_none_of_le (Nat.le_trans I.ok.bsz I.ok.above)
theorem Inv.stkSub (I : Inv X pins σ H s) : ∀ b ∈ frs X.stack, b ∈ X.env.locals :: X.fs := fun b hb => by
  rcases I.ok.stk with e | ⟨e, hf⟩
  · rw [e] at hb; exact List.mem_cons_of_mem _ hb
  · rw [e] at hb
    unfold frs at hb
    rw [List.filterMap_cons, hf] at hb
    exact hb
theorem Inv.stkFree (I : Inv X pins σ H s) : ∀ b ∈ frs X.stack, H b = none := fun b hb => by
  rcases List.mem_cons.mp (I.stkSub b hb) with e | hb
  · rw [e]; exact I.free
  · obtain ⟨_, o, ho, _⟩ := I.ok.funs.mem hb
    exact I.base.free b o ho (I.ok.frf b hb) fun z => I.ok.exfs b z hb

theorem Inv.step {g' : Array GenState} {t' : Nat} {d' : Drawn} {ch : List Addr} (I : Inv X pins σ H s)
    (hch : ∀ b ∈ ch, (b ∈ X.ex ∨ X.s₀.heap.objs.size ≤ b) ∧ b ≠ X.env.locals ∧ (∀ x c, X.env.cells.lookup x = some c → c ≠ b) ∧ ∀ p ∈ X.pn ++ pins, p.1 ≠ b)
    (keep : ∀ b o, b ≠ X.env.locals → b ∉ X.fs → b ∉ ch → s.heap.get? b = some o → H b = none → h'.get? b = some o)
    (slot : ∀ b o, b ≠ X.env.locals → b ∈ X.fs → b ∉ ch → s.heap.get? b = some o → H b = none → ∃ sl, h'.get? b = some { o with slots := sl }) (free : ∀ b o, b ∉ ch → s.heap.get? b = some o → H b = none → H' b = none)
    (there : ∀ b o, b ∉ ch → s.heap.get? b = some o → ∃ o', h'.get? b = some o')
    (tups : ∀ b xs, H b = some (.tup xs) → H' b = some (.tup xs)) (frzs : ∀ b o u, H b = some (.frz o u) → H' b = some (.frz o u)) (tbls : ∀ b ps, H b = some (.tbl ps) → ∃ more, H' b = some (.tbl (ps ++ more)))
    (ns : ∀ m, s.heap.Ns X.env.locals m → h'.Ns X.env.locals m) (hok : HOk X.prog X.w H' h') (hg : AllBare g') :
    Inv X pins σ H' { s with heap := h', gens := g', drawn := d', toks := t' } := by
  have neL : ∀ b o, X.s₀.heap.get? b = some o → b ≠ X.env.locals := fun b o e => Nat.ne_of_lt (Nat.lt_of_lt_of_le (Heap.lt_size e) I.ok.above)
  have neC : ∀ b o, X.s₀.heap.get? b = some o → b ∉ X.ex → b ∉ ch := fun b o e hx hb => by
    rcases (hch b hb).1 with z | z
    · exact hx z
    · exact absurd (Nat.lt_of_lt_of_le (Heap.lt_size e) z) (Nat.lt_irrefl _)
  have cellK : ∀ x c, X.env.cells.lookup x = some c → ∀ v, s.heap.IsCell c v → h'.IsCell c v := fun x c e v ⟨o, ho, hd⟩ => by
    have nch : c ∉ ch := fun z => (hch c z).2.2.1 x c e rfl
    by_cases hc : c ∈ X.fs
    · obtain ⟨sl, q⟩ := slot c o (I.cne x c e) hc nch ho (I.freeC x c e)
      exact ⟨_, q, hd⟩
    · exact ⟨o, keep c o (I.cne x c e) hc nch ho (I.freeC x c e), hd⟩
  refine ⟨I.ok, I.os, hg, ⟨fun b o e n hb hx => ?_, fun b o e n hb hx => ?_, fun b o e n hx => ?_, fun b o e hx => ?_, fun b xs e => tups b xs (I.base.tups b xs e), fun b o xs e => frzs b o xs (I.base.frzs b o xs e), fun b ps e => ?_⟩, ?_, fun x c e => ?_, ?_, fun x c e => ?_, fun p hp => ?_, hok, I.len⟩
  · exact keep b o (neL b o e) hb (neC b o e hx) (I.base.keep b o e n hb hx) (I.base.free b o e n hx)
  · obtain ⟨sl, e1⟩ := I.base.slot b o e n hb hx
    obtain ⟨sl', e2⟩ := slot b _ (neL b o e) hb (neC b o e hx) e1 (I.base.free b o e n hx)
    exact ⟨sl', e2⟩
  · obtain ⟨o', e1⟩ := I.base.there b o e hx
    exact free b o' (neC b o e hx) e1 (I.base.free b o e n hx)
  · obtain ⟨o', e1⟩ := I.base.there b o e hx
    exact there b o' (neC b o e hx) e1
  · obtain ⟨m1, e1⟩ := I.base.tbls b ps e
    obtain ⟨m2, e2⟩ := tbls b _ e1
    exact ⟨m1 ++ m2, by rw [e2, Array.append_assoc]⟩
  · obtain ⟨m, hn, hl⟩ := I.loc
    refine ⟨m, ns m hn, fun i x v e1 e2 e3 => ?_⟩
    obtain ⟨u, r, l⟩ := hl i x v e1 e2 e3
    refine ⟨u, r, ?_⟩
    rcases l with l | ⟨k, c, e, z⟩
    · exact .inl l
    · exact .inr ⟨k, c, e, cellK x c e _ z⟩
  · obtain ⟨v, z⟩ := I.cell x c e
    exact ⟨v, cellK x c e v z⟩
  · obtain ⟨m, ⟨o, _, _, ho, _⟩, _⟩ := I.loc
    exact free _ o (fun z => (hch _ z).2.1 rfl) ho I.free
  · obtain ⟨v, o, ho, hd⟩ := I.cell x c e
    exact free c o (fun z => (hch c z).2.2.1 x c e rfl) ho (I.freeC x c e)
  · obtain ⟨e, n, ne, nf, d⟩ := I.pin p hp
    have nch : p.1 ∉ ch := fun z => (hch p.1 z).2.2.2 p hp rfl
    exact ⟨keep p.1 p.2 ne nf nch e n, free p.1 p.2 nch e n, ne, nf, d⟩
theorem Inv.un {t' : Nat} (I : Inv X pins σ H s) (u : Un X.fs [] H H' s.heap h') (hok : HOk X.prog X.w H' h') : Inv X pins σ H' { s with heap := h', toks := t' } := by
  obtain ⟨m, ⟨o, es, ep, ho, r⟩, _⟩ := id I.loc
  obtain ⟨sl, hL⟩ := u.any ho I.free (by simp)
  exact I.step (g' := s.gens) (d' := s.drawn) (ch := []) (fun _ z => nomatch z) (fun b o _ hb _ e n => u.keep b o e n hb (by simp)) (fun b o _ hb _ e n => u.slot b o e n hb (by simp)) (fun b o _ e n => u.free b o e n (by simp)) (fun b o _ e => u.there b o e (by simp)) u.tups u.frzs u.tbls (fun m' hm => by
    obtain ⟨o', es', ep', ho', r'⟩ := hm
    rw [ho] at ho'; cases ho'
    exact ⟨_, es', ep', hL, r'⟩) hok I.bare
theorem Inv.call {g' : Array GenState} {t' : Nat} {d' : Drawn} {ch : List Addr} (I : Inv X pins σ H s) (u : Un (frs X.stack) ch H H' s.heap h') (hok : HOk X.prog X.w H' h') (hg : AllBare g')
    (hch : ∀ b ∈ ch, (b ∈ X.ex ∨ X.s₀.heap.objs.size ≤ b) ∧ b ≠ X.env.locals ∧ (∀ x c, X.env.cells.lookup x = some c → c ≠ b) ∧ ∀ p ∈ X.pn ++ pins, p.1 ≠ b) :
    Inv X pins σ H' { s with heap := h', gens := g', drawn := d', toks := t' } := by
  obtain ⟨m, ⟨o, es, ep, ho, r⟩, _⟩ := id I.loc
  obtain ⟨sl, hL⟩ := u.any ho I.free fun z => (hch _ z).2.1 rfl
  exact I.step (ch := ch) hch (fun b o hL hb hc e n => u.keep b o e n (fun z => (List.mem_cons.mp (I.stkSub b z)).elim hL hb) hc) (fun b o _ _ hc e n => u.any e n hc) (fun b o hc e n => u.free b o e n hc) (fun b o hc e => u.there b o e hc) u.tups u.frzs u.tbls (fun m' hm => by
    obtain ⟨o', es', ep', ho', r'⟩ := hm
    rw [ho] at ho'; cases ho'
    exact ⟨_, es', ep', hL, r'⟩) hok hg
theorem Inv.turned {t' : Nat} {it : Addr} (I : Inv X pins σ H s) (k : ∀ b o, b ≠ it → s.heap.get? b = some o → h'.get? b = some o) (hn : H it = none) (hL : it ≠ X.env.locals)
    (h1 : it ∈ X.ex ∨ X.s₀.heap.objs.size ≤ it) (h2 : ∀ x c, X.env.cells.lookup x = some c → c ≠ it) (h3 : ∀ p ∈ X.pn ++ pins, p.1 ≠ it) : Inv X pins σ H { s with heap := h', toks := t' } := by
  have nit : ∀ b u, H b = some u → b ≠ it := fun b u e z => by rw [z, hn] at e; cases e
  refine I.step (g' := s.gens) (d' := s.drawn) (ch := [it]) (fun b hb => ?_) (fun b o _ _ hc e _ => k b o (fun z => hc (by simp [z])) e) (fun b o _ _ hc e _ => ⟨o.slots, k b o (fun z => hc (by simp [z])) e⟩) (fun _ _ _ _ n => n)
    (fun b o hc e => ⟨o, k b o (fun z => hc (by simp [z])) e⟩) (fun _ _ e => e) (fun _ _ _ e => e) (fun b ps e => ⟨#[], by rw [e]; simp⟩) (fun m hm => ?_) (fun b u e => ?_) I.bare
  · have e : b = it := by simpa using hb
    subst e
    exact ⟨h1, hL, h2, h3⟩
  · obtain ⟨o, es, ep, ho, r⟩ := hm
    exact ⟨o, es, ep, k _ o (Ne.symm hL) ho, r⟩
  · refine (I.hok b u e).stay (fun c v hc q => k c v ?_ q) (fun _ q => q) fun _ _ q => q
    rcases hc with z | z
    · rw [z]; exact nit b u e
    · exact nit c _ z
theorem Inv.tok (I : Inv X pins σ H s) (t : Nat) : Inv X pins σ H { s with toks := t } := I.un (h' := s.heap) (t' := t) Un.refl I.hok
theorem Inv.kept {t' : Nat} (I : Inv X pins σ H s) (k : ∀ b u, s.heap.get? b = some u → h'.get? b = some u) : Inv X pins σ H { s with heap := h', toks := t' } := I.un (Un.kept k) (I.hok.kept k)
theorem Inv.laid {a : Addr} {o : HO} {t' : Nat} (I : Inv X pins σ H s) (k : ∀ b u, s.heap.get? b = some u → h'.get? b = some u) (hp : s.heap.objs.size ≤ a) (new : ObjOk X.prog X.w (upd H a o) h' a o) :
    Inv X pins σ (upd H a o) { s with heap := h', toks := t' } := I.un (Un.laid k hp (I.hok.fresh hp)) (I.hok.laid k hp new)
theorem Inv.write {x e : Addr} {o : HO} {t' : Nat} (I : Inv X pins σ H s) (mu : Mut (H x)) (he : e = x ∨ H e = some (.own x)) (k : ∀ b u, b ≠ e → s.heap.get? b = some u → h'.get? b = some u) (heo : ∃ u, h'.get? e = some u)
    (new : ObjOk X.prog X.w (upd H x o) h' x o) : Inv X pins σ (upd H x o) { s with heap := h', toks := t' } := I.un (Un.write mu he k heo) (I.hok.write mu he k heo new)
theorem Inv.weak {σ' : List (Option V)} (I : Inv X pins σ H s) (hl : σ'.length = σ.length) (w : ∀ (i : Nat) v, σ'[i]? = some (some v) → σ[i]? = some (some v)) : Inv X pins σ' H s :=
  ⟨I.ok, I.os, I.bare, I.base, let ⟨m, hn, hl'⟩ := I.loc; ⟨m, hn, fun i x v e1 e2 e3 => hl' i x v e1 (w i v e2) e3⟩, I.cell, I.free, I.freeC, I.pin, I.hok, hl.trans I.len⟩
theorem Inv.pins_of {pins' : List (Addr × Obj)} (I : Inv X pins σ H s) (h : ∀ p ∈ pins', s.heap.get? p.1 = some p.2 ∧ H p.1 = none ∧ p.1 ≠ X.env.locals ∧ p.1 ∉ X.fs ∧ ∀ v, p.2.data ≠ .cell v) : Inv X pins' σ H s :=
  ⟨I.ok, I.os, I.bare, I.base, I.loc, I.cell, I.free, I.freeC, fun p hp => (List.mem_append.mp hp).elim (fun z => I.pin p (List.mem_append_left _ z)) (h p), I.hok, I.len⟩

theorem nodup_ix {N : List Str} (hN : N.Nodup) {i j : Nat} {x : Str} (a : N[i]? = some x) (b : N[j]? = some x) : i = j := by
  obtain ⟨h1, e1⟩ := List.getElem?_eq_some_iff.mp a
  obtain ⟨h2, e2⟩ := List.getElem?_eq_some_iff.mp b
  exact (List.getElem_inj hN).mp (e1.trans e2.symm)

theorem store_ok2 {M : Model} {A : Around} {E : Value → Shared → Prop} {i : Nat} {x : Str} {v : V} {u : Value} {Q : Unit → Shared → Prop} (I : Inv X pins σ H s) (hN : X.N.Nodup) (hi : X.N[i]? = some x) (hx : Loc X.env.scope x) (r : RelV v u)
    (h : ∀ s', Inv X pins (σ.set i (some v)) H s' → (∃ a, Heap.SameBut a s.heap s'.heap ∧ (a = X.env.locals ∨ X.env.cells.lookup x = some a)) → Q () s') (hf : X.fn x = true ∨ X.env.scope.names.lookup x = some .local := by first | exact .inl rfl | exact .inr rfl | assumption) : wpAny M A (storeName X.env x u) Q E s := by
  obtain ⟨m, hn, hl⟩ := id I.loc
  have hcls : (X.env.scope.kind == .class || (X.env.scope.kind == .module && X.env.locals != X.env.globals)) = false := by rw [I.ok.kind]; rfl
  have hiσ : i < σ.length := by rw [I.len]; exact (List.getElem?_eq_some_iff.mp hi).1
  have cne := I.cne
  have tracked : ∀ {a : Addr} {h' : Heap}, (∃ o, s.heap.get? a = some o ∧ H a = none) → Heap.SameBut a s.heap h' → HOk X.prog X.w H h' := fun {a h'} ha hs b ob e => by
    obtain ⟨_, _, hfree⟩ := ha
    refine (I.hok b ob e).stay (fun c w' hc q => (hs.2 c ?_).trans q) (fun _ q => q) fun _ _ q => q
    rintro rfl
    rcases hc with rfl | hc
    · rw [hfree] at e; cases e
    · rw [hfree] at hc; cases hc
  rcases hx with hk | hk
  · refine wpAny_storeName_local hk hn (fun h' hn' hs => ?_) hcls
    obtain ⟨oL, _, _, hoL, _⟩ := id hn
    refine h _ ⟨I.ok, I.os, I.bare, ⟨fun b o e n hb hx => ?_, fun b o e n hb hx => ?_, I.base.free, fun b o e hx => ?_, I.base.tups, I.base.frzs, I.base.tbls⟩, ⟨_, hn', fun j y v' e1 e2 e3 => ?_⟩, fun y c e => ?_, I.free, I.freeC, fun p hp => ?_, tracked ⟨oL, hoL, I.free⟩ hs, by simpa using I.len⟩ ⟨_, hs, .inl rfl⟩
    · exact (hs.2 b (Nat.ne_of_lt (Nat.lt_of_lt_of_le (Heap.lt_size e) I.ok.above))).trans (I.base.keep b o e n hb hx)
    · obtain ⟨sl, e1⟩ := I.base.slot b o e n hb hx
      exact ⟨sl, (hs.2 b (Nat.ne_of_lt (Nat.lt_of_lt_of_le (Heap.lt_size e) I.ok.above))).trans e1⟩
    · obtain ⟨o', e1⟩ := I.base.there b o e hx
      exact ⟨o', (hs.2 b (Nat.ne_of_lt (Nat.lt_of_lt_of_le (Heap.lt_size e) I.ok.above))).trans e1⟩
    · by_cases hj : j = i
      · subst hj
        rw [hi] at e1; cases e1
        rw [List.getElem?_set_self hiσ] at e2
        cases e2
        exact ⟨u, r, .inl ⟨hk, by simp⟩⟩
      · rw [List.getElem?_set_ne (Ne.symm hj)] at e2
        obtain ⟨u', r', q⟩ := hl j y v' e1 e2 e3
        refine ⟨u', r', ?_⟩
        rcases q with ⟨k, e⟩ | ⟨k, c, e, z⟩
        · refine .inl ⟨k, ?_⟩
          have : y ≠ x := fun e => hj (nodup_ix hN e1 (e ▸ hi))
          simp [this, e]
        · exact .inr ⟨k, c, e, z.sameBut hs (cne y c e)⟩
    · obtain ⟨w', z⟩ := I.cell y c e
      exact ⟨w', z.sameBut hs (cne y c e)⟩
    · obtain ⟨e, n, ne, nf, d⟩ := I.pin p hp
      exact ⟨(hs.2 p.1 ne).trans e, n, ne, nf, d⟩
  · have hfn : X.fn x = true := by
      rcases hf with z | z
      · exact z
      · rw [z] at hk; cases hk
    obtain ⟨c, hc⟩ := I.ok.has x (.inl hk)
    obtain ⟨w', z⟩ := I.cell x c hc
    refine wpAny_storeName_cell I.ok.kind hk hc z (fun h' hc' hs => ?_)
    obtain ⟨oc, hoc, hocd⟩ := id z
    refine h { s with heap := h' } ⟨I.ok, I.os, I.bare, ⟨fun b o e n hb hx => ?_, fun b o e n hb hx => ?_, I.base.free, fun b o e hx => ?_, I.base.tups, I.base.frzs, I.base.tbls⟩, ⟨m, hn.sameBut hs (Ne.symm (cne x c hc)), fun j y v' e1 e2 e3 => ?_⟩, fun y c' e => ?_, I.free, I.freeC, fun p hp => ?_, tracked ⟨oc, hoc, I.freeC x c hc⟩ hs, by simpa using I.len⟩ ⟨c, hs, .inr hc⟩
    · exact (hs.2 b (Nat.ne_of_lt (Nat.lt_of_lt_of_le (Heap.lt_size e) (I.ok.cab x c hfn hc)))).trans (I.base.keep b o e n hb hx)
    · obtain ⟨sl, e1⟩ := I.base.slot b o e n hb hx
      exact ⟨sl, (hs.2 b (Nat.ne_of_lt (Nat.lt_of_lt_of_le (Heap.lt_size e) (I.ok.cab x c hfn hc)))).trans e1⟩
    · obtain ⟨o', e1⟩ := I.base.there b o e hx
      exact ⟨o', (hs.2 b (Nat.ne_of_lt (Nat.lt_of_lt_of_le (Heap.lt_size e) (I.ok.cab x c hfn hc)))).trans e1⟩
    · by_cases hj : j = i
      · subst hj
        rw [hi] at e1; cases e1
        rw [List.getElem?_set_self hiσ] at e2
        cases e2
        exact ⟨u, r, .inr ⟨.inl hk, c, hc, hc'⟩⟩
      · rw [List.getElem?_set_ne (Ne.symm hj)] at e2
        obtain ⟨u', r', q⟩ := hl j y v' e1 e2 e3
        refine ⟨u', r', ?_⟩
        rcases q with q | ⟨k, c', e, z'⟩
        · exact .inl q
        · refine .inr ⟨k, c', e, z'.sameBut hs ?_⟩
          rintro rfl
          exact hj (nodup_ix hN e1 (I.ok.inj _ _ _ e hc ▸ hi))
    · by_cases hcc : c' = c
      · subst hcc; exact ⟨_, hc'⟩
      · obtain ⟨w2, z2⟩ := I.cell y c' e
        exact ⟨w2, z2.sameBut hs hcc⟩
    · obtain ⟨e, n, ne, nf, d⟩ := I.pin p hp
      refine ⟨(hs.2 p.1 ?_).trans e, n, ne, nf, d⟩
      intro q
      rw [q, hoc] at e
      have q' : oc = p.2 := Option.some.inj e
      exact d w' (by rw [← q']; exact hocd)
theorem store_ok {M : Model} {A : Around} {E : Value → Shared → Prop} {i : Nat} {x : Str} {v : V} {u : Value} {Q : Unit → Shared → Prop} (I : Inv X pins σ H s) (hN : X.N.Nodup) (hi : X.N[i]? = some x) (hx : Loc X.env.scope x) (r : RelV v u)
    (h : ∀ s', Inv X pins (σ.set i (some v)) H s' → Q () s') (hf : X.fn x = true ∨ X.env.scope.names.lookup x = some .local := by first | exact .inl rfl | exact .inr rfl | assumption) : wpAny M A (storeName X.env x u) Q E s :=
  store_ok2 I hN hi hx r (fun s' I' _ => h s' I') hf
theorem Inv.call' {s' : Shared} {ch : List Addr} (I : Inv X pins σ H s) (ho : s'.os = s.os) (u : Un (frs X.stack) ch H H' s.heap s'.heap) (hok : HOk X.prog X.w H' s'.heap) (hg : AllBare s'.gens)
    (hch : ∀ b ∈ ch, (b ∈ X.ex ∨ X.s₀.heap.objs.size ≤ b) ∧ b ≠ X.env.locals ∧ (∀ x c, X.env.cells.lookup x = some c → c ≠ b) ∧ ∀ p ∈ X.pn ++ pins, p.1 ≠ b) : Inv X pins σ H' s' := by
  obtain ⟨h', g', d', t', o'⟩ := s'
  have e : o' = s.os := ho
  subst e
  exact I.call (g' := g') (t' := t') (d' := d') u hok hg hch
end

abbrev XK := Value → Option Addr → Hp → Prop
abbrev St := List (Option V)
abbrev VK := V → Hp → Prop
abbrev TE := St → Hp → VK → Prop
abbrev TT := St → Hp → (Bool → Hp → Prop) → Prop
abbrev TA := St → Hp → (List V → Hp → Prop) → Prop
structure Ends where
  nx : St → Hp → Prop
  rt : VK
  bk : St → Hp → Prop := fun _ _ => False
  ct : St → Hp → Prop := fun _ _ => False
abbrev TS := Ends → St → Hp → Prop

def EP (X : Cx) (pins : List (Addr × Obj)) (σ : St) (Q : VK) (u : Value) (s' : Shared) : Prop := ∃ v H', Inv X pins σ H' s' ∧ RelV v u ∧ Q v H'
def TP (X : Cx) (pins : List (Addr × Obj)) (σ : St) (Q : Bool → Hp → Prop) (b : Bool) (s' : Shared) : Prop := ∃ H', Inv X pins σ H' s' ∧ Q b H'
def AP (X : Cx) (pins : List (Addr × Obj)) (σ : St) (Q : List V → Hp → Prop) (us : List Value) (s' : Shared) : Prop := ∃ vs H', Inv X pins σ H' s' ∧ Vals vs us ∧ Q vs H'
def SP (X : Cx) (pins : List (Addr × Obj)) (D : Ends) (f : Flow) (s' : Shared) : Prop :=
  match f with
  | .next => ∃ σ' H', Inv X pins σ' H' s' ∧ D.nx σ' H'
  | .brk => ∃ σ' H', Inv X pins σ' H' s' ∧ D.bk σ' H'
  | .cont => ∃ σ' H', Inv X pins σ' H' s' ∧ D.ct σ' H'
  | .ret u => ∃ v σ' H', Inv X pins σ' H' s' ∧ RelV v u ∧ D.rt v H'

def PE (X : Cx) (e : Expr) (t : TE) : Prop :=
  ∀ (pins : List (Addr × Obj)) (s : Shared) (σ : St) (H : Hp) (Q : VK), Inv X pins σ H s → t σ H Q → wpAny (model X.prog X.w) X.A (eval e X.env) (EP X pins σ Q) X.xe s
def PT (X : Cx) (e : Expr) (t : TT) : Prop :=
  ∀ (pins : List (Addr × Obj)) (s : Shared) (σ : St) (H : Hp) (Q : Bool → Hp → Prop), Inv X pins σ H s → t σ H Q → wpAny (model X.prog X.w) X.A (isTrue e X.env (eval e X.env)) (TP X pins σ Q) X.xe s
def PW (X : Cx) (e : Expr) (t : TT) : Prop :=
  ∀ (whole : Sem Value) (pins : List (Addr × Obj)) (s : Shared) (σ : St) (H : Hp) (Q : Bool → Hp → Prop), Inv X pins σ H s → t σ H Q → wpAny (model X.prog X.w) X.A (isTrue e X.env whole) (TP X pins σ Q) X.xe s
def PA (X : Cx) (es : List Expr) (t : TA) : Prop :=
  ∀ (pos : Pos) (pins : List (Addr × Obj)) (s : Shared) (σ : St) (H : Hp) (Q : List V → Hp → Prop), Inv X pins σ H s → t σ H Q → wpAny (model X.prog X.w) X.A (spliced (backTo pos (starEach es X.env))) (AP X pins σ Q) X.xe s
def PS (X : Cx) (st : Stmt) (t : TS) : Prop :=
  ∀ (pins : List (Addr × Obj)) (s : Shared) (σ : St) (H : Hp) (D : Ends), Inv X pins σ H s → t D σ H → wpAny (model X.prog X.w) X.A (exec st X.env) (SP X pins D) X.xe s
def PSs (X : Cx) (st : List Stmt) (t : TS) : Prop :=
  ∀ (pins : List (Addr × Obj)) (s : Shared) (σ : St) (H : Hp) (D : Ends), Inv X pins σ H s → t D σ H → wpAny (model X.prog X.w) X.A (execs st X.env) (SP X pins D) X.xe s
theorem thn {α : Type} {t : Sem α} {Q Q' : α → Shared → Prop} {M : Model} {A : Around} {E : Value → Shared → Prop} {s : Shared} (h : wpAny M A t Q E s) (hQ : ∀ a s, Q a s → Q' a s) : wpAny M A t Q' E s := wpAny_mono h hQ fun _ _ x => x
end L2

namespace L2
open PySem PySem.Spec PyProof.Rows
section
variable {X : Cx}

theorem bin {a b : Expr} {ta tb : TE} (ha : PE X a ta) (hb : PE X b tb) {pins : List (Addr × Obj)} {s : Shared} {σ : St} {H : Hp} {R : V → V → Hp → Prop} (I : Inv X pins σ H s) (h : ta σ H fun x H1 => tb σ H1 fun y H2 => R x y H2)
    {α : Type} {Q : α → Shared → Prop} {f : Value → Value → Sem α}
    (hf : ∀ v u s2 x y H2, Inv X pins σ H2 s2 → RelV x v → RelV y u → R x y H2 → wpAny (model X.prog X.w) X.A (f v u) Q X.xe s2) :
    wpAny (model X.prog X.w) X.A (eval a X.env) (fun v s₁ => wpAny (model X.prog X.w) X.A (eval b X.env) (fun u s₂ => wpAny (model X.prog X.w) X.A (f v u) Q X.xe s₂) X.xe s₁) X.xe s := by
  refine thn (ha pins s σ H _ I h) fun v s1 ⟨x, H1, I1, r1, q1⟩ => ?_
  refine thn (hb pins s1 σ H1 _ I1 q1) fun u s2 ⟨y, H2, I2, r2, q2⟩ => ?_
  exact hf v u s2 x y H2 I2 r1 r2 q2

def tVar (i : Nat) : TE := fun σ H Q => ∃ v, σ[i]? = some (some v) ∧ Q v H
def tC (v : V) : TE := fun _ H Q => Q v H
theorem pe_var {i : Nat} {x : Str} {pos : Pos} (hN : X.N[i]? = some x) (hv : Vis X.env.scope x) (hd : (x == ("__debug__" : Str)) = false := by decide) (hcd : (x == ("__classdict__" : Str)) = false := by decide) : PE X (.Name x pos) (tVar i) := by
  intro pins s σ H Q I h
  obtain ⟨v, e, h⟩ := h
  obtain ⟨m, hn, hl⟩ := I.loc
  obtain ⟨u, r, l⟩ := hl i x v hN e hv
  have fin : EP X pins σ Q u s := ⟨v, H, I, r, h⟩
  rcases l with ⟨hk, hm⟩ | ⟨hk, c, hc, hcell⟩
  · exact wpAny_Name (wpAny_loadName_local I.ok.kind hk hn hm fin) hd
  · rcases hk with hk | hk
    · exact wpAny_Name (wpAny_loadName_cell I.ok.kind hk hc hcell fin) hd
    · exact wpAny_Name (wpAny_loadName_free I.ok.kind hk hc hcell fin hcd) hd
theorem pe_int {i j pos} : PE X (.Constant (.int i) j pos) (tC (.int i)) := fun _ _ _ H _ I h => wpAny_Constant_int ⟨.int i, H, I.tok _, ⟨_, rfl⟩, h⟩
theorem pe_bl {b j pos} : PE X (.Constant (.bool b) j pos) (tC (.bl b)) := fun _ _ _ H _ I h => Constant_bool ⟨.bl b, H, I, rfl, h⟩
theorem pe_non {j pos} : PE X (.Constant .none j pos) (tC .non) := fun _ _ _ H _ I h => Constant_none ⟨.non, H, I, rfl, h⟩
theorem pe_str {x j pos} : PE X (.Constant (.str x) j pos) (tC (.str x)) := fun _ _ _ H _ I h => Calls.Constant_str ⟨.str x, H, I.tok _, ⟨_, rfl⟩, h⟩

def Gl (X : Cx) (x : Str) : Prop := X.env.kindOf x = some .globalImplicit
theorem ld_glob {E : Value → Shared → Prop} {pins : List (Addr × Obj)} {s : Shared} {σ : St} {H : Hp} {x : Str} {u : Value} {pos : Pos} {Q : Value → Shared → Prop} (I : Inv X pins σ H s) (hg : Gl X x) (hm : X.mg x = some u) (h : Q u s)
    (hd : (x == ("__debug__" : Str)) = false := by decide) : wpAny (model X.prog X.w) X.A (eval (.Name x pos) X.env) Q E s :=
  Calls.Name_function_global I.ok.kind hg (Calls.loadGlobal_global (by rw [I.ok.glob]; exact I.mod.glob.keeps I.bk) hm h) hd
theorem ld_blt {E : Value → Shared → Prop} {pins : List (Addr × Obj)} {s : Shared} {σ : St} {H : Hp} {x : Str} {u : Value} {pos : Pos} {Q : Value → Shared → Prop} (I : Inv X pins σ H s) (hg : Gl X x) (hm : X.mg x = none) (hv : bootBuiltins x = some u) (h : Q u s)
    (hn : x ≠ "__name__" := by decide) (hd : (x == ("__debug__" : Str)) = false := by decide) : wpAny (model X.prog X.w) X.A (eval (.Name x pos) X.env) Q E s := by
  obtain ⟨mb, h1, h2⟩ := I.mod.blt
  exact Calls.Name_function_global I.ok.kind hg (Calls.loadGlobal_builtin (by rw [I.ok.glob]; exact I.mod.glob.keeps I.bk) hm (by rw [I.ok.blt]; exact h1.keeps I.bk) ((h2 x hn).trans hv) h) hd
theorem pe_glob {x : Str} {v : V} {u : Value} {pos : Pos} (hg : Gl X x) (hm : X.mg x = some u) (r : RelV v u) (hd : (x == ("__debug__" : Str)) = false := by decide) : PE X (.Name x pos) (tC v) :=
  fun _ _ _ H _ I h => ld_glob I hg hm ⟨v, H, I, r, h⟩ hd
def t2I (ta tb : TE) (k : Int → Int → Hp → Prop) : St → Hp → Prop := fun σ H => ta σ H fun x H1 => tb σ H1 fun y H2 => ∃ i j, x = .int i ∧ y = .int j ∧ k i j H2
def tAdd (ta tb : TE) : TE := fun σ H Q => t2I ta tb (fun i j H2 => Q (.int (i + j)) H2) σ H
def tSub (ta tb : TE) : TE := fun σ H Q => t2I ta tb (fun i j H2 => Q (.int (i - j)) H2) σ H
def tMul (ta tb : TE) : TE := fun σ H Q => t2I ta tb (fun i j H2 => (-(2 ^ 64) < i ∧ i < 2 ^ 64) ∧ Q (.int (i * j)) H2) σ H
variable {a b : Expr} {ta tb : TE} {pos : Pos}
def PC (X : Cx) (op : CmpOp) (a b : Expr) (t : TE) : Prop :=
  ∀ (pins : List (Addr × Obj)) (s : Shared) (σ : St) (H : Hp) (Q : VK), Inv X pins σ H s → t σ H Q →
    wpAny (model X.prog X.w) X.A (eval a X.env) (fun v s₁ => wpAny (model X.prog X.w) X.A (eval b X.env) (fun u s₂ => wpAny (model X.prog X.w) X.A (compareOp op v u) (EP X pins σ Q) X.xe s₂) X.xe s₁) X.xe s
def tCmp (p : Int → Int → Bool) (ta tb : TE) : TE := fun σ H Q => t2I ta tb (fun i j H2 => Q (.bl (p i j)) H2) σ H
abbrev tLt : TE → TE → TE := tCmp fun i j => decide (i < j)
abbrev tLe : TE → TE → TE := tCmp fun i j => decide (i ≤ j)
abbrev tGt : TE → TE → TE := tCmp fun i j => decide (j < i)
abbrev tGe : TE → TE → TE := tCmp fun i j => decide (j ≤ i)
abbrev tEqI : TE → TE → TE := tCmp fun i j => decide (i = j)
abbrev tNeI : TE → TE → TE := tCmp fun i j => !decide (i = j)
def tIsN (ta : TE) : TE := fun σ H Q => ta σ H fun x H1 => Q (.bl (decide (x = .non))) H1
def tNotN (ta : TE) : TE := fun σ H Q => ta σ H fun x H1 => Q (.bl (!decide (x = .non))) H1
def tB (t : TE) : TT := fun σ H Q => t σ H fun x H1 => ∃ c, x = .bl c ∧ Q c H1
variable {tA tB' : TT} {rest : List Expr}
def tAnd (t u : TT) : TT := fun σ H Q => t σ H fun c H1 => if c = true then u σ H1 Q else Q false H1
def tOr (t u : TT) : TT := fun σ H Q => t σ H fun c H1 => if c = true then Q true H1 else u σ H1 Q
def tNot (t : TT) : TT := fun σ H Q => t σ H fun c H1 => Q (!c) H1
theorem pt_not (ha : PT X a tA) : PT X (.UnaryOp .Not a pos) (tNot tA) := by
  intro pins s σ H Q I h
  exact isTrue_not (ha pins s σ H (fun c H1 => Q (!c) H1) I h)
def tAndV (ta tb : TE) : TE := fun σ H Q => ta σ H fun x H1 => ∃ c, x = .bl c ∧ if c = true then tb σ H1 Q else Q (.bl false) H1
def tOrV (ta tb : TE) : TE := fun σ H Q => ta σ H fun x H1 => ∃ c, x = .bl c ∧ if c = true then Q (.bl true) H1 else tb σ H1 Q
def tNotV (ta : TE) : TE := fun σ H Q => ta σ H fun x H1 => ∃ c, x = .bl c ∧ Q (.bl (!c)) H1
def tIf (t : TT) (ta tb : TE) : TE := fun σ H Q => t σ H fun c H1 => if c = true then ta σ H1 Q else tb σ H1 Q
end
end L2

namespace L2
open PySem PySem.Spec PyProof.Rows

def SqL (K : PySem.W.Frag) (H : Hp) (a : Addr) (xs : List V) : Prop :=
  Rd H a (.lst xs) ∨
    ∃ (o : Obj) (its : Array Value) (n : Nat), K.lookup a = some o ∧ o.cls = .type "list" ∧ o.dict = none ∧ o.data = .seq its n ∧ its.size ≤ sizeLine ∧ Vals xs its.toList
def SqT (K : PySem.W.Frag) (H : Hp) (a : Addr) (xs : List V) : Prop :=
  Rd H a (.tup xs) ∨
    ∃ (o : Obj) (its : Array Value) (n : Nat), K.lookup a = some o ∧ o.cls = .type "tuple" ∧ o.data = .seq its n ∧ its.size ≤ sizeLine ∧ Vals xs its.toList
def absV : Value → Option V
  | .none => some .non
  | .bool b => some (.bl b)
  | .int i _ => some (.int i)
  | .str x _ => some (.str x)
  | .bytes b _ => some (.byt b)
  | .float b _ => some (.flt b)
  | .ref a => some (.ref a)
  | .type n => some (.ty n)
  | _ => none
theorem RelV.abs {x : V} {u : Value} (r : RelV x u) : absV u = some x := by
  cases x with
  | non => cases r; rfl
  | bl _ => cases r; rfl
  | int _ => obtain ⟨t, rfl⟩ := r; rfl
  | str _ => obtain ⟨t, rfl⟩ := r; rfl
  | byt _ => obtain ⟨t, rfl⟩ := r; rfl
  | flt _ => obtain ⟨t, rfl⟩ := r; rfl
  | ref _ => cases r; rfl
  | ty _ => cases r; rfl
theorem RelV.inj {x y : V} {u : Value} (r : RelV x u) (q : RelV y u) : x = y := Option.some.inj (r.abs.symm.trans q.abs)
theorem Vals.inj : ∀ {xs ys : List V} {us : List Value}, Vals xs us → Vals ys us → xs = ys
  | _, _, _, .nil, .nil => rfl
  | _, _, _, .cons r t, .cons r' t' => by rw [r.inj r', Vals.inj t t']
section
variable {X : Cx} {pins : List (Addr × Obj)} {σ : St} {H : Hp} {s : Shared} {a : Addr} {xs ys : List V}
theorem SqL.of {K : PySem.W.Frag} (h : H a = some (.lst xs)) : SqL K H a xs := .inl (.inl h)
theorem SqT.of {K : PySem.W.Frag} (h : H a = some (.tup xs)) : SqT K H a xs := .inl (.inl h)
theorem Inv.list (I : Inv X pins σ H s) (h : SqL X.K H a xs) : ∃ its : List Value, Vals xs its ∧ PlainL s.heap a its.toArray ∧ xs.length ≤ sizeLine := by
  rcases h with h | ⟨o, its, n, hk, hc, hd, hs, hz, r⟩
  · obtain ⟨z, its, n, r, e⟩ := h.ok I.hok
    exact ⟨its, r, ⟨_, n, e, rfl, rfl, rfl⟩, z⟩
  · refine ⟨its.toList, r, ⟨o, n, I.kIn a o hk, hc, hd, by simpa using hs⟩, ?_⟩
    have e := r.length
    simp only [Array.length_toList] at e
    omega
theorem Inv.tuple (I : Inv X pins σ H s) (h : SqT X.K H a xs) : ∃ its : List Value, Vals xs its ∧ IsTup s.heap a its.toArray ∧ xs.length ≤ sizeLine := by
  rcases h with h | ⟨o, its, n, hk, hc, hs, hz, r⟩
  · obtain ⟨z, its, r, p⟩ := h.ok I.hok
    exact ⟨its, r, p, z⟩
  · refine ⟨its.toList, r, ⟨o, I.kIn a o hk, hc, n, by simpa using hs⟩, ?_⟩
    have e := r.length
    simp only [Array.length_toList] at e
    omega
theorem Inv.list_inj (I : Inv X pins σ H s) (h : SqL X.K H a xs) (h' : SqL X.K H a ys) : xs = ys := by
  obtain ⟨its, r, ⟨o, n, e, _, _, d⟩, _⟩ := I.list h
  obtain ⟨its', r', ⟨o', n', e', _, _, d'⟩, _⟩ := I.list h'
  rw [e] at e'; cases e'
  rw [d] at d'
  injection d' with d1 _
  have : its = its' := by simpa using congrArg Array.toList d1
  subst this
  exact r.inj r'
end

abbrev Cx.wish (X : Cx) (E : Value → Shared → Prop) : Cx := { X with xe := E }
abbrev Cx.nox (X : Cx) : Cx := X.wish fun _ _ => False
theorem Cx.Ok.wish {X : Cx} (ok : X.Ok) (E : Value → Shared → Prop) : (X.wish E).Ok :=
  ⟨ok.mod, ok.kind, ok.glob, ok.blt, ok.above, ok.inj, ok.has, ok.cab, ok.hd, ok.frames, ok.stk, ok.exf, ok.bs, ok.bsz, ok.noex, ok.exfs, ok.funs, ok.frf⟩
theorem Cx.Ok.unwish {X : Cx} {E : Value → Shared → Prop} (ok : (X.wish E).Ok) : X.Ok :=
  ⟨ok.mod, ok.kind, ok.glob, ok.blt, ok.above, ok.inj, ok.has, ok.cab, ok.hd, ok.frames, ok.stk, ok.exf, ok.bs, ok.bsz, ok.noex, ok.exfs, ok.funs, ok.frf⟩
section
variable {X : Cx} {pins : List (Addr × Obj)} {σ : St} {H : Hp} {s : Shared} {E : Value → Shared → Prop}
theorem Inv.wish (I : Inv X pins σ H s) (E : Value → Shared → Prop) : Inv (X.wish E) pins σ H s := ⟨I.ok.wish E, I.os, I.bare, I.base, I.loc, I.cell, I.free, I.freeC, I.pin, I.hok, I.len⟩
theorem Inv.unwish (I : Inv (X.wish E) pins σ H s) : Inv X pins σ H s := ⟨I.ok.unwish, I.os, I.bare, I.base, I.loc, I.cell, I.free, I.freeC, I.pin, I.hok, I.len⟩
theorem SP.unwish {D : Ends} {f : Flow} {s' : Shared} (h : SP (X.wish E) pins D f s') : SP X pins D f s' := by
  cases f with
  | next => obtain ⟨σ', H', I, q⟩ := h; exact ⟨σ', H', I.unwish, q⟩
  | brk => obtain ⟨σ', H', I, q⟩ := h; exact ⟨σ', H', I.unwish, q⟩
  | cont => obtain ⟨σ', H', I, q⟩ := h; exact ⟨σ', H', I.unwish, q⟩
  | ret u => obtain ⟨v, σ', H', I, r, q⟩ := h; exact ⟨v, σ', H', I.unwish, r, q⟩
theorem PSs.nox {st : List Stmt} {t : TS} (h : PSs X.nox st t) : PSs X st t := fun pins s σ H D I hw =>
  wpAny_mono (h pins s σ H D (I.wish _) hw) (fun _ _ q => q.unwish) fun _ _ z => False.elim z
end

section
variable {X : Cx} {st : Stmt} {rest : List Stmt} {t u : TS} {e : Expr} {te : TE} {pos : Pos}
def tNext : TS := fun D σ H => D.nx σ H
def tSeq (t u : TS) : TS := fun D σ H => t { D with nx := u D } σ H
theorem pss_nil : PSs X [] tNext := fun _ _ σ H _ I h => wpAny_execs_nil ⟨σ, H, I, h⟩
theorem pss_one (h1 : PS X st t) : PSs X [st] t := by
  intro pins s σ H D I h
  refine wpAny_execs_cons (thn (h1 pins s σ H D I h) fun f s1 q => ?_)
  cases f with
  | next => exact wpAny_execs_nil q
  | ret v => exact q
  | brk => exact q
  | cont => exact q
def tBreak : TS := fun D σ H => D.bk σ H
def tCont : TS := fun D σ H => D.ct σ H
theorem Inv.quiet {pins : List (Addr × Obj)} {σ : St} {H : Hp} {s : Shared} (I : Inv X pins σ H s) : interactive X.env = false := by simp [interactive, I.ok.kind]
def tDrop (te : TE) : TS := fun D σ H => te σ H fun _ H1 => D.nx σ H1
theorem ps_expr (he : PE X e te) (hs : swapsWith e none pos.line X.env = pure false := by rfl) : PS X (.Expr e pos) (tDrop te) := by
  intro pins s σ H D I h
  exact wpAny_Expr_any (thn (he pins s σ H _ I h) fun v s1 ⟨x, H1, I1, r1, q1⟩ => ⟨σ, H1, I1, q1⟩) I.quiet hs
def tRet (te : TE) : TS := fun D σ H => te σ H D.rt
theorem ps_ret (he : PE X e te) : PS X (.Return (some e) pos) (tRet te) := by
  intro pins s σ H D I h
  exact wpAny_Return_some (thn (he pins s σ H _ I h) fun v s1 ⟨x, H1, I1, r1, q1⟩ => ⟨x, σ, H1, I1, r1, q1⟩)
def tRetN : TS := fun D _ H => D.rt .non H
def tIfS (c : TT) (t u : TS) : TS := fun D σ H => c σ H fun b H1 => if b = true then t D σ H1 else u D σ H1
theorem ps_if {c : Expr} {a b : List Stmt} {tc : TT} (hc : PT X c tc) (ha : PSs X a t) (hb : PSs X b u) : PS X (.If c a b pos) (tIfS tc t u) := by
  intro pins s σ H D I h
  refine wpAny_If (thn (hc pins s σ H _ I h) fun d s1 ⟨H1, I1, q1⟩ => ?_)
  cases d with
  | true => exact ha pins s1 σ H1 D I1 q1
  | false => exact hb pins s1 σ H1 D I1 q1
def tNever : TS := fun _ _ _ => False
end

abbrev TG := V → St → Hp → (St → Hp → Prop) → Prop
abbrev TGs := List V → St → Hp → (St → Hp → Prop) → Prop
def PG (X : Cx) (target : Expr) (t : TG) : Prop :=
  ∀ (pins : List (Addr × Obj)) (s : Shared) (σ : St) (H : Hp) (v : V) (u : Value) (Q : St → Hp → Prop), Inv X pins σ H s → RelV v u → t v σ H Q →
    wpAny (model X.prog X.w) X.A (assign target X.env u) (fun _ s' => ∃ σ' H', Inv X pins σ' H' s' ∧ Q σ' H') X.xe s
def PGs (X : Cx) (ts : List Expr) (t : TGs) : Prop :=
  ∀ (pins : List (Addr × Obj)) (s : Shared) (σ : St) (H : Hp) (vs : List V) (us : List Value) (Q : St → Hp → Prop), Inv X pins σ H s → Vals vs us → t vs σ H Q →
    wpAny (model X.prog X.w) X.A (assignInOrder ((assignEach ts X.env).map (·.2)) us) (fun _ s' => ∃ σ' H', Inv X pins σ' H' s' ∧ Q σ' H') X.xe s
abbrev TSet := V → V → V → Hp → (Hp → Prop) → Prop
def PSet (X : Cx) (t : TSet) : Prop :=
  ∀ (pins : List (Addr × Obj)) (s : Shared) (σ : St) (H : Hp) (o i v : V) (ov iv u : Value) (Q : Hp → Prop), Inv X pins σ H s → RelV o ov → RelV i iv → RelV v u → t o i v H Q →
    wpAny (model X.prog X.w) X.A (setItem ov iv u) (fun _ s' => ∃ H', Inv X pins σ H' s' ∧ Q H') X.xe s
abbrev TIp := V → V → Hp → VK → Prop
def PIp (X : Cx) (op : Operator) (t : TIp) : Prop :=
  ∀ (pins : List (Addr × Obj)) (s : Shared) (σ : St) (H : Hp) (x y : V) (v u : Value) (Q : VK), Inv X pins σ H s → RelV x v → RelV y u → t x y H Q →
    wpAny (model X.prog X.w) X.A (inplaceOp op v u) (EP X pins σ Q) X.xe s
section
variable {X : Cx} {pos : Pos}
def gName (i : Nat) : TG := fun v σ H Q => Q (σ.set i (some v)) H
theorem pg_name {i : Nat} {x : Str} (hN : X.N.Nodup) (hi : X.N[i]? = some x) (hx : Loc X.env.scope x) (hf : X.fn x = true ∨ X.env.scope.names.lookup x = some .local := by first | exact .inl rfl | exact .inr rfl | assumption) : PG X (.Name x pos) (gName i) := by
  intro pins s σ H v u Q I r h
  exact wpAny_assign_Name (store_ok I hN hi hx r (fun s' I' => ⟨_, H, I', h⟩) hf)
def gNil : TGs := fun vs σ H Q => vs = [] ∧ Q σ H
def gCons (t : TG) (u : TGs) : TGs := fun vs σ H Q => ∃ v r, vs = v :: r ∧ t v σ H fun σ' H' => u r σ' H' Q
theorem pgs_nil : PGs X [] gNil := by
  intro pins s σ H vs us Q I r h
  obtain ⟨e, h⟩ := h
  subst e
  cases r
  exact assignInOrder_nil ⟨σ, H, I, h⟩
theorem pgs_cons {e : Expr} {es : List Expr} {t : TG} {u : TGs} (h1 : PG X e t) (h2 : PGs X es u)
    (hs : (assignEach (e :: es) X.env).map (·.2) = assign e X.env :: (assignEach es X.env).map (·.2) := by rfl) : PGs X (e :: es) (gCons t u) := by
  intro pins s σ H vs us Q I r h
  obtain ⟨v, vr, e1, h⟩ := h
  subst e1
  cases r with
  | cons r rr =>
    rw [hs]
    refine assignInOrder_cons (thn (h1 pins s σ H _ _ _ I r h) fun _ s1 ⟨σ1, H1, I1, q1⟩ => ?_)
    exact h2 pins s1 σ1 H1 _ _ Q I1 rr q1
def gTup (K : PySem.W.Frag) (n : Nat) (t : TGs) : TG := fun v σ H Q => ∃ a xs, v = .ref a ∧ SqT K H a xs ∧ xs.length = n ∧ t xs σ H Q
theorem pg_tup {es : List Expr} {k : Nat} {t : TGs} {n : Nat} (hc : X.calm = true) (h : PGs X es t)
    (hn : (assignEach es X.env).length = n := by rfl) (hst : (assignEach es X.env).findIdx? (·.1) = none := by rfl) : PG X (.Tuple es k pos) (gTup X.K n t) := by
  intro pins s σ H v u Q I r hw
  obtain ⟨a, xs, e1, hq, hl, hw⟩ := hw
  subst e1
  cases r
  obtain ⟨its, rv, ht, hz⟩ := I.tuple hq
  refine assign_Tuple_tuple (I.ok.hd hc) ht (by simp [hn, ← hl, rv.length]) hst fun h' hx => ?_
  have I1 : Inv X pins σ H { s with heap := h' } := I.kept (t' := s.toks) fun b o e => hx b o (Nat.ne_of_lt (Heap.lt_size e)) e
  exact h pins _ σ H xs _ Q I1 (by simpa using rv) hw
def gSub (to ti : TE) (t : TSet) : TG := fun v σ H Q => to σ H fun o H1 => ti σ H1 fun i H2 => t o i v H2 fun H3 => Q σ H3
theorem pg_sub {o i : Expr} {to ti : TE} {t : TSet} (ho : PE X o to) (hi : PE X i ti) (hs : PSet X t)
    (ha : ∀ v, assign (.Subscript o i pos) X.env v = (do
      let ov ← holding [v] (eval o X.env)
      let iv ← holding [v, ov] (eval i X.env)
      standAt pos
      holding [v, ov, iv] (setItem ov iv v)
      release [v, ov, iv] []) := by intro _; rfl) : PG X (.Subscript o i pos) (gSub to ti t) := by
  intro pins s σ H v u Q I r h
  rw [ha]
  refine wpAny_bind (wpAny_holding (thn (ho pins s σ H _ I h) fun ov s1 ⟨x, H1, I1, r1, q1⟩ => ?_))
  refine wpAny_bind (wpAny_holding (thn (hi pins s1 σ H1 _ I1 q1) fun iv s2 ⟨y, H2, I2, r2, q2⟩ => ?_))
  refine wpAny_bind (wpAny_standAt (wpAny_bind (wpAny_holding (thn (hs pins s2 σ H2 x y v ov iv u _ I2 r1 r2 r q2) fun _ s3 ⟨H3, I3, q3⟩ => ?_))))
  exact wpAny_release ⟨σ, H3, I3, q3⟩
def tAsg (te : TE) (g : TG) : TS := fun D σ H => te σ H fun x H1 => g x σ H1 D.nx
theorem ps_asg {tg e : Expr} {te : TE} {g : TG} (he : PE X e te) (hg : PG X tg g) (hs : swapsWithSole [tg] e pos.line X.env = pure false := by rfl) (hw : swappedStores [tg] e X.env = pure none := by rfl)
    (h1 : (assignEach [tg] X.env).map (·.2) = [assign tg X.env] := by rfl) : PS X (.Assign [tg] e pos) (tAsg te g) := by
  intro pins s σ H D I h
  refine wpAny_Assign_stores (thn (he pins s σ H _ I h) fun v s1 ⟨x, H1, I1, r1, q1⟩ => ?_) hs hw
  rw [h1]
  exact thn (hg pins s1 σ H1 x v _ I1 r1 q1) fun _ s2 q => q
theorem ps_set {i : Nat} {x : Str} {e : Expr} {te : TE} {pos' : Pos} (hN : X.N.Nodup) (hi : X.N[i]? = some x) (hx : Loc X.env.scope x) (he : PE X e te) (hs : swapsWith e (some (.Name x pos')) pos.line X.env = pure false := by rfl) (hf : X.fn x = true ∨ X.env.scope.names.lookup x = some .local := by first | exact .inl rfl | exact .inr rfl | assumption) :
    PS X (.Assign [.Name x pos'] e pos) (tAsg te (gName i)) := by
  intro pins s σ H D I h
  refine wpAny_Assign_Name (thn (he pins s σ H _ I h) fun v s1 ⟨y, H1, I1, r1, q1⟩ => ?_) hs
  exact store_ok I1 hN hi hx r1 (fun s2 I2 => ⟨_, H1, I2, q1⟩) hf
def tPar (i j : Nat) (ta : TA) : TS := fun D σ H => ta σ H fun vs H1 => ∃ v w, vs = [v, w] ∧ D.nx ((σ.set i (some v)).set j (some w)) H1
def tAug (i : Nat) (te : TE) (ti : TIp) : TS := fun D σ H => ∃ x, σ[i]? = some (some x) ∧ te σ H fun y H1 => ti x y H1 fun z H2 => D.nx (σ.set i (some z)) H2
def tAugS (to ti te : TE) (tget : V → V → Hp → VK → Prop) (tip : TIp) (tset : TSet) : TS := fun D σ H => to σ H fun o H1 => ti σ H1 fun i H2 => tget o i H2 fun x H3 => te σ H3 fun y H4 => tip x y H4 fun z H5 => tset o i z H5 fun H6 => D.nx σ H6
def PGet (X : Cx) (t : V → V → Hp → VK → Prop) : Prop :=
  ∀ (pins : List (Addr × Obj)) (s : Shared) (σ : St) (H : Hp) (o i : V) (ov iv : Value) (Q : VK), Inv X pins σ H s → RelV o ov → RelV i iv → t o i H Q →
    wpAny (model X.prog X.w) X.A (getItem ov iv) (EP X pins σ Q) X.xe s
def ipI (f : Int → Int → Int) : TIp := fun x y H Q => ∃ i j, x = .int i ∧ y = .int j ∧ Q (.int (f i j)) H
end

section
variable {X : Cx} {pos : Pos}
def tWhile (c : TT) (tb : TS) : TS := fun D σ H => ∃ W : Nat → St → Hp → Prop, (∃ m, W m σ H) ∧ ∀ m σ H, W m σ H →
  c σ H fun b H1 => if b = true then ∃ N : St → Hp → Prop, (∀ σ' H', N σ' H' → ∃ m', m' < m ∧ W m' σ' H') ∧ tb { D with nx := N, ct := N, bk := D.nx } σ H1 else D.nx σ H1
theorem ps_while {c : Expr} {body : List Stmt} {tc : TT} {tb : TS} (hp : PassesOwn (model X.prog X.w) X.A X.env X.xe) (hc : PT X c tc) (hb : PSs X body tb) : PS X (.While c body [] pos) (tWhile tc tb) := by
  intro pins s σ H D I h
  obtain ⟨W, ⟨m0, w0⟩, turn⟩ := h
  refine wpAny_While (codeAny_whileLoop (fun n s' => ∃ σ' H', Inv X pins σ' H' s' ∧ W n σ' H') ?_ m0 ⟨σ, H, I, w0⟩)
  rintro n s1 ⟨σ1, H1, I1, w1⟩
  refine wpAny_passesOwn hp (thn (hc pins s1 σ1 H1 _ I1 (turn n σ1 H1 w1)) fun b s2 ⟨H2, I2, q2⟩ => ?_)
  cases b with
  | true =>
    obtain ⟨N, hN, q2⟩ := q2
    rw [if_pos rfl]
    refine wpAny_passesOwn hp (thn (hb pins s2 σ1 H2 _ I2 q2) fun f s3 q3 => ?_)
    cases f with
    | next =>
      obtain ⟨σ3, H3, I3, n3⟩ := q3
      obtain ⟨m', hm, w3⟩ := hN σ3 H3 n3
      exact ⟨m', hm, σ3, H3, I3, w3⟩
    | cont =>
      obtain ⟨σ3, H3, I3, n3⟩ := q3
      obtain ⟨m', hm, w3⟩ := hN σ3 H3 n3
      exact ⟨m', hm, σ3, H3, I3, w3⟩
    | brk => exact q3
    | ret v => exact q3
  | false =>
    rw [if_neg Bool.false_ne_true]
    exact wpAny_execs_nil ⟨σ1, H2, I2, q2⟩
end

structure It where
  go : Nat → Hp → Prop
  yld : Nat → Hp → V → Hp → Prop
  stop : Nat → Hp → Prop
def FpOk (X : Cx) (pins : List (Addr × Obj)) (H : Hp) (b : Addr) : Prop :=
  H b = none ∧ b ≠ X.env.locals ∧ b ∉ X.fs ∧ (b ∈ X.ex ∨ X.s₀.heap.objs.size ≤ b) ∧ (∀ x c, X.env.cells.lookup x = some c → c ≠ b) ∧ ∀ p ∈ X.pn ++ pins, p.1 ≠ b
theorem Inv.fpOk {X : Cx} {pins : List (Addr × Obj)} {σ : St} {H H' : Hp} {s : Shared} {b : Addr} (I : Inv X pins σ H s) (hb : s.heap.objs.size ≤ b) (hn : H' b = none) : FpOk X pins H' b := by
  refine ⟨hn, Nat.ne_of_gt (Nat.lt_of_lt_of_le I.lt hb), I.nofs hb, .inr (Nat.le_trans I.sz hb), fun x c e z => ?_, fun p hp z => ?_⟩
  · obtain ⟨v, q⟩ := I.cell x c e
    exact absurd (Nat.lt_of_lt_of_le q.lt (by rw [z]; exact hb)) (Nat.lt_irrefl _)
  · exact absurd (Nat.lt_of_lt_of_le (Heap.lt_size (I.pin p hp).1) (by rw [z]; exact hb)) (Nat.lt_irrefl _)
structure Turn (P : Program) (w : World) (K : PySem.W.Frag) (tg : Expr) (J : It) (fp : List Addr) (it : Addr) (tn : Nat → Heap → Prop) : Prop where
  mem : it ∈ fp
  obj : ∀ i h, tn i h → ∀ b ∈ fp, ∃ o, h.get? b = some o ∧ ∀ v, o.data ≠ .cell v
  keep : ∀ i h h', tn i h → (∀ b ∈ fp, ∀ o, h.get? b = some o → h'.get? b = some o) → tn i h'
  item : ∀ (X : Cx), X.prog = P → X.w = w → X.K = K → X.calm = true → ∀ (i : Nat) (pins : List (Addr × Obj)) (s : Shared) (σ : St) (H : Hp) (E : Value → Shared → Prop), Inv X pins σ H s → (∀ b ∈ fp, FpOk X pins H b) → tn i s.heap → J.go i H →
    wpAny (model P w) X.A (pyNext (.ref it)) (fun r s1 => ∃ u, r = some u ∧
      wpAny (model P w) X.A (letOwnedTupleGo tg (.ref it) u) (fun _ s2 => ∃ x H', Inv X pins σ H' s2 ∧ RelV x u ∧ J.yld i H x H' ∧ tn (i + 1) s2.heap ∧ ∀ b ∈ fp, H' b = none) E s1) E s
  done : ∀ (X : Cx), X.prog = P → X.w = w → X.K = K → X.calm = true → ∀ (i : Nat) (pins : List (Addr × Obj)) (s : Shared) (σ : St) (H : Hp) (E : Value → Shared → Prop), Inv X pins σ H s → (∀ b ∈ fp, FpOk X pins H b) → tn i s.heap → J.stop i H →
    wpAny (model P w) X.A (pyNext (.ref it)) (fun r s1 => r = none ∧ Inv X pins σ H s1) E s
  self : ∀ (A : Around) (i : Nat) (s : Shared) (Q : Value → Shared → Prop) (E : Value → Shared → Prop), tn i s.heap → Q (.ref it) s → wpAny (model P w) A (pyIter (.ref it)) Q E s
abbrev TI := St → Hp → (It → Hp → Prop) → Prop
def PIE (X : Cx) (pins : List (Addr × Obj)) (σ : St) (tg : Expr) (R : It → Hp → Prop) (itv : Value) (s2 : Shared) : Prop :=
  ∃ (it : Addr) (fp : List Addr) (tn : Nat → Heap → Prop) (J : It) (H' : Hp), itv = .ref it ∧ Inv X pins σ H' s2 ∧ Turn X.prog X.w X.K tg J fp it tn ∧ tn 0 s2.heap ∧ (∀ b ∈ fp, FpOk X pins H' b) ∧ R J H'
def PI (X : Cx) (tg iter : Expr) (wi : TI) : Prop :=
  ∀ (pins : List (Addr × Obj)) (s : Shared) (σ : St) (H : Hp) (R : It → Hp → Prop), Inv X pins σ H s → wi σ H R →
    wpAny (model X.prog X.w) X.A (eval iter X.env) (fun v s1 => wpAny (model X.prog X.w) X.A (pyIter v) (PIE X pins σ tg R) X.xe s1) X.xe s

theorem go_of {M : Model} {A : Around} {E : Value → Shared → Prop} {s : Shared} {tg : Expr} {it : Addr} {u : Value} {o : Obj} {n : String} {vs : Array Value} {Q : Unit → Shared → Prop} (ho : s.heap.get? it = some o) (hc : o.cls = .type n) (hd : o.data = .fields vs)
    (hn : ["enumerate", "zip", "dict_itemiterator", "dict_reverseitemiterator", "odict_iterator", "itertools.zip_longest", "itertools.pairwise"].contains n = false) (hQ : Q () s) : wpAny M A (letOwnedTupleGo tg (.ref it) u) Q E s := by
  unfold letOwnedTupleGo
  cases tg <;> first
    | exact wpAny_pure hQ
    | (cases u <;> first
        | exact wpAny_pure hQ
        | (refine wpAny_bind (wpAny_load ho ?_)
           rw [hc, hd]
           show wpAny M A (if (["enumerate", "zip", "dict_itemiterator", "dict_reverseitemiterator", "odict_iterator", "itertools.zip_longest", "itertools.pairwise"].contains n && vs[0]? == some (rawInt _)) = true then _ else _) Q E s
           rw [if_neg (by intro h; rw [hn, Bool.false_and] at h; cases h)]
           exact wpAny_pure hQ))

def Itl (K : PySem.W.Frag) (a : Addr) : It :=
  ⟨fun i H => ∃ xs x, SqL K H a xs ∧ xs[i]? = some x, fun i H x H' => H' = H ∧ ∀ xs, SqL K H a xs → xs[i]? = some x, fun i H => ∃ xs, SqL K H a xs ∧ xs.length ≤ i⟩
def Itt (K : PySem.W.Frag) (a : Addr) : It :=
  ⟨fun i H => ∃ xs x, SqT K H a xs ∧ xs[i]? = some x, fun i H x H' => H' = H ∧ ∀ xs, SqT K H a xs → xs[i]? = some x, fun i H => ∃ xs, SqT K H a xs ∧ xs.length ≤ i⟩
def Itr (lo : Int) (n : Nat) : It := ⟨fun i _ => i < n, fun i H x H' => H' = H ∧ x = .int (lo + i), fun i _ => n ≤ i⟩
theorem turn_list {P : Program} {w : World} {K : PySem.W.Frag} {tg : Expr} (a it : Addr) : Turn P w K tg (Itl K a) [it] it (fun i h => h.IsListIter it a i) where
  mem := by simp
  obj := fun i h st b hb => by
    have e : b = it := by simpa using hb
    subst e
    obtain ⟨o, e, c, d⟩ := st
    exact ⟨o, e, fun v z => by rw [d] at z; cases z⟩
  keep := fun i h h' st k => st.at fun o e => k it (by simp) o e
  item := by
    intro X hP hw hK hc i pins s σ H E I hf st hg
    subst hP hw hK
    obtain ⟨xs, x, hq, hx⟩ := hg
    obtain ⟨its, rv, p, hz⟩ := I.list hq
    obtain ⟨u, hu, ru⟩ := rv.get hx
    obtain ⟨f0, f1, f2, f3, f4, f5⟩ := hf it (by simp)
    refine wpAny_pyNext_list_item st p.isList (x := u) (by simpa using hu) fun h' st' sb => ?_
    have I1 : Inv X pins σ H { s with heap := h' } := I.turned (t' := s.toks) (fun b o hb e => (sb.2 b hb).trans e) f0 f1 f3 f4 f5
    obtain ⟨o, e, c, d⟩ := id st'
    exact ⟨u, rfl, go_of (s := { s with heap := h' }) e c d (by decide) ⟨x, H, I1, ru, ⟨rfl, fun ys hy => by rw [I.list_inj hy hq]; exact hx⟩, st', fun b hb => (hf b hb).1⟩⟩
  done := by
    intro X hP hw hK hc i pins s σ H E I hf st hg
    subst hP hw hK
    obtain ⟨xs, hq, hx⟩ := hg
    obtain ⟨its, rv, p, hz⟩ := I.list hq
    obtain ⟨f0, f1, f2, f3, f4, f5⟩ := hf it (by simp)
    have hl := rv.length
    exact wpAny_pyNext_list_end (I.ok.hd hc) st p.isList (by simp; omega) fun h' eb => ⟨rfl, I.turned (t' := s.toks) (fun b o hb e => eb b o hb e) f0 f1 f3 f4 f5⟩
  self := fun _ _ _ _ _ st h => wpAny_pyIter_listiter st h
theorem turn_range {P : Program} {w : World} {K : PySem.W.Frag} {tg : Expr} (it : Addr) (lo : Int) (n : Nat) : Turn P w K tg (Itr lo n) [it] it (fun i h => IsRangeIter h it (lo + (i : Nat) * 1) ((n : Int) - (i : Nat)) 1) where
  mem := by simp
  obj := fun i h st b hb => by
    have e : b = it := by simpa using hb
    subst e
    exact ⟨_, st, fun v z => by
      have z' : Data.fields _ = Data.cell v := z
      cases z'⟩
  keep := fun i h h' st k => k it (by simp) _ st
  item := by
    intro X hP hw hK hc i pins s σ H E I hf st hg
    subst hP hw hK
    obtain ⟨f0, f1, f2, f3, f4, f5⟩ := hf it (by simp)
    have W := Walks.range (prog := X.prog) (w := X.w) (I.ok.hd hc) it lo 1 n
    refine W.item i s _ _ hg st fun v h' tk hv st' kk => ?_
    obtain ⟨t, rfl⟩ := hv
    have I1 : Inv X pins σ H { s with heap := h', toks := tk } := I.turned (fun b o hb e => kk b o (by simpa using hb) e) f0 f1 f3 f4 f5
    refine ⟨_, rfl, go_of (s := { s with heap := h', toks := tk }) (n := "range_iterator") st' rfl rfl (by decide) ⟨.int (lo + i), H, I1, ⟨t, ?_⟩, ⟨rfl, rfl⟩, st', fun b hb => (hf b hb).1⟩⟩
    rw [Int.mul_one]
  done := by
    intro X hP hw hK hc i pins s σ H E I hf st hg
    subst hP hw hK
    obtain ⟨f0, f1, f2, f3, f4, f5⟩ := hf it (by simp)
    exact wpAny_pyNext_range_end (I.ok.hd hc) st (by have : n ≤ i := hg; omega) fun h' eb => ⟨rfl, I.turned (t' := s.toks) (fun b o hb e => eb b o hb e) f0 f1 f3 f4 f5⟩
  self := fun _ _ _ _ _ st h => wpAny_pyIter_rangeiter st h
end L2

namespace L2
open PySem PySem.Spec PyProof.Rows
section
variable {X : Cx} {tg : Expr}
def iList (K : PySem.W.Frag) (tl : TE) : TI := fun σ H R => tl σ H fun x H1 => ∃ a, x = .ref a ∧ (∃ xs, SqL K H1 a xs) ∧ R (Itl K a) H1
def iTup (K : PySem.W.Frag) (tl : TE) : TI := fun σ H R => tl σ H fun x H1 => ∃ a, x = .ref a ∧ (∃ xs, SqT K H1 a xs) ∧ R (Itt K a) H1
theorem pi_list {l : Expr} {tl : TE} (hl : PE X l tl) : PI X tg l (iList X.K tl) := by
  intro pins s σ H R I h
  refine thn (hl pins s σ H _ I h) fun v s1 ⟨x, H1, I1, r1, q1⟩ => ?_
  obtain ⟨a, e, ⟨xs, hq⟩, q⟩ := q1
  subst e
  cases r1
  obtain ⟨its, rv, p, hz⟩ := I1.list hq
  refine wpAny_pyIter_list p.isList ?_
  refine ⟨s1.heap.objs.size, [s1.heap.objs.size], _, _, H1, rfl, I1.kept (t' := s1.toks) fun b o e => Heap.get?_push_of_some _ e, turn_list a _, ⟨_, Heap.get?_push_size _ rfl, rfl, rfl⟩, fun b hb => ?_, q⟩
  have e : b = s1.heap.objs.size := by simpa using hb
  subst e
  exact I1.fpOk (Nat.le_refl _) (I1.hok.fresh (Nat.le_refl _))
theorem range_it {pins : List (Addr × Obj)} {σ : St} {H : Hp} {s : Shared} {R : It → Hp → Prop} {E : Value → Shared → Prop} {lo hi : Int} {t u v : Tok} {tk : Nat} (I : Inv X pins σ H s) (h1 : -(2 ^ 62) ≤ lo) (h2 : lo < 2 ^ 62) (h3 : -(2 ^ 62) ≤ hi) (h4 : hi < 2 ^ 62)
    (q : R (Itr lo (hi - lo).toNat) H) : wpAny (model X.prog X.w) X.A (pyIter (.ref s.heap.objs.size)) (PIE X pins σ tg R) E { s with heap := s.heap.push { cls := .type "range", data := .fields #[.int lo t, .int hi u, .int 1 v] }, toks := tk } := by
  refine wpAny_pyIter_range (IsRange.new ..) (small_one h1 h2 h3 h4) ?_
  have I1 : Inv X pins σ H { s with heap := s.heap.push { cls := .type "range", data := .fields #[.int lo t, .int hi u, .int 1 v] }, toks := tk } := I.kept fun b o e => Heap.get?_push_of_some _ e
  refine ⟨(s.heap.push { cls := .type "range", data := .fields #[.int lo t, .int hi u, .int 1 v] }).objs.size, [(s.heap.push { cls := .type "range", data := .fields #[.int lo t, .int hi u, .int 1 v] }).objs.size], _, _, H, rfl,
    I1.kept (t' := tk) fun b o e => Heap.get?_push_of_some _ e, turn_range _ lo (hi - lo).toNat, ?_, fun b hb => ?_, q⟩
  · have e1 : lo + ((0 : Nat) : Int) * 1 = lo := by simp
    have e2 : (((hi - lo).toNat : Nat) : Int) - ((0 : Nat) : Int) = Builtin.Range.rangeSize lo hi 1 := by rw [rangeSize_one]; split <;> omega
    show IsRangeIter _ _ (lo + ((0 : Nat) : Int) * 1) ((((hi - lo).toNat : Nat) : Int) - ((0 : Nat) : Int)) 1
    rw [e1, e2]
    exact Heap.get?_push_size _ rfl
  · have e : b = (s.heap.push { cls := .type "range", data := .fields #[.int lo t, .int hi u, .int 1 v] }).objs.size := by simpa using hb
    subst e
    exact I1.fpOk (Nat.le_refl _) (I1.hok.fresh (Nat.le_refl _))
def iRng1 (ta : TA) : TI := fun σ H R => ta σ H fun vs H1 => ∃ j : Int, vs = [.int j] ∧ -(2 ^ 62) ≤ j ∧ j < 2 ^ 62 ∧ R (Itr 0 j.toNat) H1
def iRng2 (ta : TA) : TI := fun σ H R => ta σ H fun vs H1 => ∃ i j : Int, vs = [.int i, .int j] ∧ (-(2 ^ 62) ≤ i ∧ i < 2 ^ 62 ∧ -(2 ^ 62) ≤ j ∧ j < 2 ^ 62) ∧ R (Itr i (j - i).toNat) H1
theorem pi_range1 {a : Expr} {ta : TA} {p pos : Pos} (hg : Gl X "range") (hm : X.mg "range" = none) (ha : PA X [a] ta) (hs : starEach [a] X.env = [(false, eval a X.env)] := by rfl) : PI X tg (.Call (.Name "range" p) [a] [] pos) (iRng1 ta) := by
  intro pins s σ H R I h
  refine Call_ (ld_blt I hg hm boot_range (PyProof.Rows.callWith_type1 (thn (ha pos pins s σ H _ I h) fun us s1 ⟨vs, H1, I1, r1, q1⟩ => ?_) hs rfl))
  obtain ⟨j, e, q1, q2, q⟩ := q1
  subst e
  cases r1 with
  | cons r rr =>
    cases rr
    obtain ⟨t, rfl⟩ := r
    exact call_range_1 (range_it I1 (by omega) (by omega) q1 q2 (by simpa using q))
def tFor (wi : TI) (g : TG) (tb : TS) : TS := fun D σ H => wi σ H fun J H1 => ∃ W : Nat → Nat → St → Hp → Prop, (∃ m, W 0 m σ H1) ∧ ∀ i m σ H, W i m σ H →
  (J.stop i H ∧ D.nx σ H) ∨ (J.go i H ∧ ∃ N : St → Hp → Prop, (∀ σ' H', N σ' H' → ∃ m', m' < m ∧ W (i + 1) m' σ' H') ∧ ∀ x H', J.yld i H x H' → g x σ H' fun σ2 H2 => tb { D with nx := N, ct := N, bk := D.nx } σ2 H2)
def pinsAt (fp : List Addr) (h : Heap) : List (Addr × Obj) := fp.filterMap fun b => (h.get? b).map fun o => (b, o)
theorem mem_pinsAt {fp : List Addr} {h : Heap} {b : Addr} {o : Obj} (hb : b ∈ fp) (e : h.get? b = some o) : (b, o) ∈ pinsAt fp h := List.mem_filterMap.mpr ⟨b, hb, by rw [e]; rfl⟩
theorem of_pinsAt {fp : List Addr} {h : Heap} {p : Addr × Obj} (hp : p ∈ pinsAt fp h) : p.1 ∈ fp ∧ h.get? p.1 = some p.2 := by
  obtain ⟨b, hb, e⟩ := List.mem_filterMap.mp hp
  cases q : h.get? b with
  | none => rw [q] at e; cases e
  | some o =>
    rw [q] at e
    have e' : (b, o) = p := Option.some.inj e
    subst e'
    exact ⟨hb, q⟩
theorem Inv.pinned {pins : List (Addr × Obj)} {σ : St} {H : Hp} {s : Shared} {fp : List Addr} (I : Inv X pins σ H s) (hf : ∀ b ∈ fp, FpOk X pins H b) (ho : ∀ b ∈ fp, ∃ o, s.heap.get? b = some o ∧ ∀ v, o.data ≠ .cell v) : Inv X (pins ++ pinsAt fp s.heap) σ H s :=
  I.pins_of fun p hp => (List.mem_append.mp hp).elim (fun z => I.pin p (List.mem_append_right _ z)) fun z => by
    obtain ⟨hb, e⟩ := of_pinsAt z
    obtain ⟨f0, f1, f2, _⟩ := hf p.1 hb
    obtain ⟨o, e', d⟩ := ho p.1 hb
    rw [e] at e'; cases e'
    exact ⟨e, f0, f1, f2, d⟩
theorem Inv.unpinned {pins pl : List (Addr × Obj)} {σ : St} {H : Hp} {s : Shared} (I : Inv X (pins ++ pl) σ H s) : Inv X pins σ H s := I.pins_of fun p hp => I.pin p (List.mem_append_right _ (List.mem_append_left _ hp))
theorem ps_for {iter : Expr} {body : List Stmt} {wi : TI} {g : TG} {tb : TS} {pos : Pos} (hp : PassesOwn (model X.prog X.w) X.A X.env X.xe) (hc : X.calm = true) (hi : PI X tg iter wi) (hg : PG X tg g) (hb : PSs X body tb)
    (hs : ∀ x, foldedSetIterable iter X.env x = pure x := by intro _; rfl) : PS X (.For tg iter body [] pos) (tFor wi g tb) := by
  intro pins s σ H D I h
  refine wpAny_For (thn (hi pins s σ H _ I h) fun v s1 h1 => thn h1 fun itv s2 h2 => ?_) hs
  obtain ⟨it, fp, tn, J, H2, e, I2, T, st2, f2, W, ⟨m0, w0⟩, turn⟩ := h2
  subst e
  -- what stays true of the iterator's objects through the loop
  have stat : ∀ {H' : Hp}, (∀ b ∈ fp, H' b = none) → ∀ b ∈ fp, FpOk X pins H' b := fun hn b hb => ⟨hn b hb, (f2 b hb).2⟩
  refine codeAny_forLoop_any (fun n s' => ∃ i σ' H', Inv X pins σ' H' s' ∧ tn i s'.heap ∧ (∀ b ∈ fp, H' b = none) ∧ W i n σ' H') ?_ m0 ⟨0, σ, H2, I2, st2, fun b hb => (f2 b hb).1, w0⟩
  rintro n s3 ⟨i, σ3, H3, I3, st3, fr3, w3⟩
  rcases turn i n σ3 H3 w3 with ⟨stop, qn⟩ | ⟨go, N, hN, step⟩
  · refine wpAny_passesOwn hp (thn (T.done X rfl rfl rfl hc i pins s3 σ3 H3 X.xe I3 (stat fr3) st3 stop) fun r s4 ⟨hr, I4⟩ => ?_)
    subst hr
    exact wpAny_execs_nil ⟨σ3, H3, I4, qn⟩
  · refine wpAny_passesOwn hp (thn (T.item X rfl rfl rfl hc i pins s3 σ3 H3 X.xe I3 (stat fr3) st3 go) fun r s4 ⟨u, hr, h4⟩ => ?_)
    subst hr
    refine wpAny_passesOwn hp (thn h4 fun _ s5 ⟨x, H5, I5, r5, y5, st5, fr5⟩ => ?_)
    have I5' := I5.pinned (stat fr5) (T.obj _ _ st5)
    refine wpAny_passesOwn hp (thn (hg _ s5 σ3 H5 x u _ I5' r5 (step x H5 y5)) fun _ s6 ⟨σ6, H6, I6, q6⟩ => ?_)
    refine wpAny_passesOwn hp (thn (hb _ s6 σ6 H6 _ I6 q6) fun f s7 q7 => ?_)
    have again : ∀ {σ7 : St} {H7 : Hp}, Inv X (pins ++ pinsAt fp s5.heap) σ7 H7 s7 → N σ7 H7 → ∃ m, m < n ∧ ∃ i σ' H', Inv X pins σ' H' s7 ∧ tn i s7.heap ∧ (∀ b ∈ fp, H' b = none) ∧ W i m σ' H' := fun {σ7 H7} I7 n7 => by
      obtain ⟨m', hm, w7⟩ := hN σ7 H7 n7
      refine ⟨m', hm, i + 1, σ7, H7, I7.unpinned, T.keep _ _ _ st5 fun b hb o e => (I7.pin (b, o) (List.mem_append_right _ (List.mem_append_right _ (mem_pinsAt hb e)))).1, fun b hb => ?_, w7⟩
      obtain ⟨o, e, d⟩ := T.obj _ _ st5 b hb
      exact (I7.pin (b, o) (List.mem_append_right _ (List.mem_append_right _ (mem_pinsAt hb e)))).2.1
    cases f with
    | next => obtain ⟨σ7, H7, I7, n7⟩ := q7; exact again I7 n7
    | cont => obtain ⟨σ7, H7, I7, n7⟩ := q7; exact again I7 n7
    | brk => obtain ⟨σ7, H7, I7, q7⟩ := q7; exact ⟨σ7, H7, I7.unpinned, q7⟩
    | ret v => obtain ⟨x7, σ7, H7, I7, r7, q7⟩ := q7; exact ⟨x7, σ7, H7, I7.unpinned, r7, q7⟩
end

theorem for_list {K : PySem.W.Frag} {a : Addr} {xs : List V} {g : TG} {tb : TS} {D : Ends} {σ : St} {H : Hp} (Pv : Nat → St → Hp → Prop) (h0 : Pv 0 σ H) (hl : ∀ i σ H, i ≤ xs.length → Pv i σ H → SqL K H a xs)
    (hs : ∀ i x σ H, xs[i]? = some x → Pv i σ H → g x σ H fun σ2 H2 => tb { D with nx := Pv (i + 1), ct := Pv (i + 1), bk := D.nx } σ2 H2) (hd : ∀ σ H, Pv xs.length σ H → D.nx σ H) :
    ∃ W : Nat → Nat → St → Hp → Prop, (∃ m, W 0 m σ H) ∧ ∀ i m σ H, W i m σ H →
      ((Itl K a).stop i H ∧ D.nx σ H) ∨ ((Itl K a).go i H ∧ ∃ N : St → Hp → Prop, (∀ σ' H', N σ' H' → ∃ m', m' < m ∧ W (i + 1) m' σ' H') ∧ ∀ x H', (Itl K a).yld i H x H' → g x σ H' fun σ2 H2 => tb { D with nx := N, ct := N, bk := D.nx } σ2 H2) := by
  refine ⟨fun i m σ H => m = xs.length - i ∧ i ≤ xs.length ∧ Pv i σ H, ⟨xs.length, by simp, Nat.zero_le _, h0⟩, ?_⟩
  rintro i m σ H ⟨rfl, hi, p⟩
  have q := hl i σ H hi p
  by_cases hlt : i < xs.length
  · refine .inr ⟨⟨xs, xs[i], q, by simp [hlt]⟩, Pv (i + 1), fun σ' H' p' => ⟨xs.length - (i + 1), by omega, rfl, hlt, p'⟩, fun x H' y => ?_⟩
    obtain ⟨e, y⟩ := y
    subst e
    exact hs i x σ _ (y xs q) p
  · have e : i = xs.length := by omega
    subst e
    exact .inl ⟨⟨xs, q, Nat.le_refl _⟩, hd σ H p⟩
theorem for_range {lo : Int} {n : Nat} {g : TG} {tb : TS} {D : Ends} {σ : St} {H : Hp} (Pv : Nat → St → Hp → Prop) (h0 : Pv 0 σ H)
    (hs : ∀ i σ H, i < n → Pv i σ H → g (.int (lo + i)) σ H fun σ2 H2 => tb { D with nx := Pv (i + 1), ct := Pv (i + 1), bk := D.nx } σ2 H2) (hd : ∀ σ H, Pv n σ H → D.nx σ H) :
    ∃ W : Nat → Nat → St → Hp → Prop, (∃ m, W 0 m σ H) ∧ ∀ i m σ H, W i m σ H →
      ((Itr lo n).stop i H ∧ D.nx σ H) ∨ ((Itr lo n).go i H ∧ ∃ N : St → Hp → Prop, (∀ σ' H', N σ' H' → ∃ m', m' < m ∧ W (i + 1) m' σ' H') ∧ ∀ x H', (Itr lo n).yld i H x H' → g x σ H' fun σ2 H2 => tb { D with nx := N, ct := N, bk := D.nx } σ2 H2) := by
  refine ⟨fun i m σ H => m = n - i ∧ i ≤ n ∧ Pv i σ H, ⟨n, by simp, Nat.zero_le _, h0⟩, ?_⟩
  rintro i m σ H ⟨rfl, hi, p⟩
  by_cases hlt : i < n
  · refine .inr ⟨hlt, Pv (i + 1), fun σ' H' p' => ⟨n - (i + 1), by omega, rfl, hlt, p'⟩, fun x H' y => ?_⟩
    obtain ⟨e, y⟩ := y
    subst e y
    exact hs i σ _ hlt p
  · have e : i = n := by omega
    subst e
    exact .inl ⟨Nat.le_refl _, hd σ H p⟩
end L2

namespace L2
open PySem PySem.Spec PyProof.Rows

abbrev R2 := V → V → Hp → VK → Prop
def OpR (X : Cx) (f : Value → Value → Sem Value) (r : R2) : Prop :=
  ∀ (pins : List (Addr × Obj)) (s : Shared) (σ : St) (H : Hp) (x y : V) (v u : Value) (Q : VK), Inv X pins σ H s → RelV x v → RelV y u → r x y H Q →
    wpAny (model X.prog X.w) X.A (f v u) (EP X pins σ Q) X.xe s
def UnR (X : Cx) (f : Value → Sem Value) (r : V → Hp → VK → Prop) : Prop :=
  ∀ (pins : List (Addr × Obj)) (s : Shared) (σ : St) (H : Hp) (x : V) (v : Value) (Q : VK), Inv X pins σ H s → RelV x v → r x H Q →
    wpAny (model X.prog X.w) X.A (f v) (EP X pins σ Q) X.xe s
def CallR (X : Cx) (f : Value) (r : List V → Hp → VK → Prop) : Prop :=
  ∀ (pins : List (Addr × Obj)) (s : Shared) (σ : St) (H : Hp) (xs : List V) (us : List Value) (Q : VK), Inv X pins σ H s → Vals xs us → r xs H Q →
    wpAny (model X.prog X.w) X.A (call f us) (EP X pins σ Q) X.xe s
def TruR (X : Cx) (r : V → Hp → (Bool → Hp → Prop) → Prop) : Prop :=
  ∀ (pins : List (Addr × Obj)) (s : Shared) (σ : St) (H : Hp) (x : V) (v : Value) (Q : Bool → Hp → Prop), Inv X pins σ H s → RelV x v → r x H Q →
    wpAny (model X.prog X.w) X.A (truthy v) (TP X pins σ Q) X.xe s

def tOp (r : R2) (ta tb : TE) : TE := fun σ H Q => ta σ H fun x H1 => tb σ H1 fun y H2 => r x y H2 Q
def tUn (r : V → Hp → VK → Prop) (ta : TE) : TE := fun σ H Q => ta σ H fun x H1 => r x H1 Q
def rI (C : Int → Int → Prop) (g : Int → Int → V) : R2 := fun x y H Q => ∃ i j, x = .int i ∧ y = .int j ∧ C i j ∧ Q (g i j) H
def rI0 (g : Int → Int → V) : R2 := fun x y H Q => ∃ i j, x = .int i ∧ y = .int j ∧ Q (g i j) H
def rU (g : Int → V) : V → Hp → VK → Prop := fun x H Q => ∃ i, x = .int i ∧ Q (g i) H

section
variable {X : Cx} {a b c : Expr} {ta tb tc : TE} {pos : Pos}

theorem binT (ha : PE X a ta) (hb : PE X b tb) {pins : List (Addr × Obj)} {s : Shared} {σ : St} {H : Hp} {R : V → V → Hp → Prop} (I : Inv X pins σ H s)
    (h : ta σ H fun x H1 => tb σ H1 fun y H2 => R x y H2) {Q : Value → Shared → Prop} {f : Value → Value → Sem Value}
    (hf : ∀ v u s2 x y H2, Inv X pins σ H2 s2 → RelV x v → RelV y u → R x y H2 → wpAny (model X.prog X.w) X.A (f v u) Q X.xe s2) :
    wpAny (model X.prog X.w) X.A (eval a X.env) (fun v s₁ => wpAny (model X.prog X.w) X.A (eval b X.env) (fun u s₂ => wpAny (model X.prog X.w) X.A (f v u) Q X.xe s₂) X.xe s₁) X.xe s := by
  refine thn (ha pins s σ H _ I h) fun v s1 ⟨x, H1, I1, r1, q1⟩ => ?_
  refine thn (hb pins s1 σ H1 _ I1 q1) fun u s2 ⟨y, H2, I2, r2, q2⟩ => ?_
  exact hf v u s2 x y H2 I2 r1 r2 q2

theorem pe_op {op : Operator} {r : R2} (ho : OpR X (binaryOp op) r) (ha : PE X a ta) (hb : PE X b tb) : PE X (.BinOp a op b pos) (tOp r ta tb) := by
  intro pins s σ H Q I h
  exact wpAny_BinOp (binT ha hb I h fun v u s2 x y H2 I2 rx ry q => ho pins s2 σ H2 x y v u Q I2 rx ry q)
theorem opI {f : Value → Value → Sem Value} {C : Int → Int → Prop} {g : Int → Int → Int}
    (rule : ∀ (i j : Int) (t u : Tok) (s : Shared) (Q : Value → Shared → Prop) (E : Value → Shared → Prop), C i j → Q (.int (g i j) s.toks) { s with toks := s.toks + 1 } → wpAny (model X.prog X.w) X.A (f (.int i t) (.int j u)) Q E s) :
    OpR X f (rI C fun i j => .int (g i j)) := by
  intro pins s σ H x y v u Q I rx ry h
  obtain ⟨i, j, rfl, rfl, hc, q⟩ := h
  obtain ⟨t, rfl⟩ := rx
  obtain ⟨t', rfl⟩ := ry
  exact rule i j t t' s _ _ hc ⟨.int (g i j), H, I.tok _, ⟨_, rfl⟩, q⟩
theorem opI0 {f : Value → Value → Sem Value} {g : Int → Int → Int}
    (rule : ∀ (i j : Int) (t u : Tok) (s : Shared) (Q : Value → Shared → Prop) (E : Value → Shared → Prop), Q (.int (g i j) s.toks) { s with toks := s.toks + 1 } → wpAny (model X.prog X.w) X.A (f (.int i t) (.int j u)) Q E s) :
    OpR X f (rI0 fun i j => .int (g i j)) := by
  intro pins s σ H x y v u Q I rx ry h
  obtain ⟨i, j, rfl, rfl, q⟩ := h
  obtain ⟨t, rfl⟩ := rx
  obtain ⟨t', rfl⟩ := ry
  exact rule i j t t' s _ _ ⟨.int (g i j), H, I.tok _, ⟨_, rfl⟩, q⟩
theorem opB0 {f : Value → Value → Sem Value} {g : Int → Int → Bool}
    (rule : ∀ (i j : Int) (t u : Tok) (s : Shared) (Q : Value → Shared → Prop) (E : Value → Shared → Prop), Q (.bool (g i j)) s → wpAny (model X.prog X.w) X.A (f (.int i t) (.int j u)) Q E s) :
    OpR X f (rI0 fun i j => .bl (g i j)) := by
  intro pins s σ H x y v u Q I rx ry h
  obtain ⟨i, j, rfl, rfl, q⟩ := h
  obtain ⟨t, rfl⟩ := rx
  obtain ⟨t', rfl⟩ := ry
  exact rule i j t t' s _ _ ⟨.bl (g i j), H, I, rfl, q⟩

def CDiv (i j : Int) : Prop := 0 < j ∧ j < 1073741824
def CDivN (i j : Int) : Prop := j ≠ 0 ∧ j.natAbs < 1073741824
def CPow (i j : Int) : Prop := 0 ≤ j ∧ j ≤ 1000000 ∧ i.natAbs < 2 ^ 64
def CMul (i j : Int) : Prop := (-(2 ^ 64) < i ∧ i < 2 ^ 64) ∨ (-(2 ^ 64) < j ∧ j < 2 ^ 64)
theorem op_add : OpR X (binaryOp .Add) (rI0 fun i j => .int (i + j)) := opI0 fun _ _ _ _ _ _ _ q => add_int q
theorem op_sub : OpR X (binaryOp .Sub) (rI0 fun i j => .int (i - j)) := opI0 fun _ _ _ _ _ _ _ q => sub_int q
theorem op_mod : OpR X (binaryOp .Mod) (rI (fun _ j => 0 < j) fun i j => .int (i % j)) := opI fun i j _ _ _ _ _ hc q => by
  have h1 : (0 : Int) < j := hc
  exact mod_int' (by omega) (by rw [Int.fmod_eq_emod_of_nonneg i (by omega)]; exact q)
theorem op_pow : OpR X (binaryOp .Pow) (rI CPow fun i j => .int (i ^ j.toNat)) := opI fun _ _ _ _ _ _ _ hc q => pow_int_small hc.1 hc.2.1 hc.2.2 q
end

def scal : V → V → Bool
  | .non, .non => true | .non, .int _ => true | .int _, .non => true | .non, .bl _ => true | .bl _, .non => true | .non, .str _ => true | .str _, .non => true
  | .int _, .int _ => true | .bl _, .bl _ => true | .str _, .str _ => true | .byt _, .byt _ => true
  | .int _, .str _ => true | .str _, .int _ => true | .bl _, .str _ => true | .str _, .bl _ => true
  | _, _ => false
def rEq : R2 := fun x y H Q => scal x y = true ∧ Q (.bl (decide (x = y))) H
def rNe : R2 := fun x y H Q => scal x y = true ∧ Q (.bl (!decide (x = y))) H

theorem dec_int {i j : Int} : decide (V.int i = V.int j) = (i == j) := by
  rw [Bool.eq_iff_iff]
  simp
theorem dec_bl {i j : Bool} : decide (V.bl i = V.bl j) = (i == j) := by
  rw [Bool.eq_iff_iff]
  simp
theorem dec_str {i j : Str} : decide (V.str i = V.str j) = (i == j) := by
  rw [Bool.eq_iff_iff]
  simp
theorem dec_byt {i j : Array UInt8} : decide (V.byt i = V.byt j) = (i.toList == j.toList) := by
  rw [Bool.eq_iff_iff]
  cases i
  cases j
  simp

section
variable {X : Cx} {a b c : Expr} {ta tb tc : TE} {pos : Pos}
theorem fin_bl {pins : List (Addr × Obj)} {σ : St} {H : Hp} {s : Shared} {Q : VK} {k k' : Bool} (I : Inv X pins σ H s) (q : Q (.bl k) H) (e : k = k') : EP X pins σ Q (.bool k') s := by
  subst e
  exact ⟨.bl k, H, I, rfl, q⟩
theorem op_eq : OpR X (compareOp .Eq) rEq := by
  intro pins s σ H x y v u Q I rx ry h
  obtain ⟨hs, q⟩ := h
  cases x with
  | non =>
    cases rx
    cases y with
    | non => cases ry; exact PySem.EqNone.eq_none_none (fin_bl I q (by simp))
    | bl j => cases ry; exact PySem.EqNone.eq_none_bool (fin_bl I q (by simp))
    | int j => obtain ⟨t', rfl⟩ := ry; exact PySem.EqNone.eq_none_int (fin_bl I q (by simp))
    | str j => obtain ⟨t', rfl⟩ := ry; exact PySem.EqNone.eq_none_str (fin_bl I q (by simp))
    | _ => exact absurd (show false = true from hs) Bool.false_ne_true
  | bl i =>
    cases rx
    cases y with
    | non => cases ry; exact PySem.EqNone.eq_bool_none (fin_bl I q (by simp))
    | bl j => cases ry; exact eq_bool (fin_bl I q dec_bl)
    | str j => obtain ⟨t', rfl⟩ := ry; exact PySem.EqMixed.eq_bool_str (fin_bl I q (by simp))
    | _ => exact absurd (show false = true from hs) Bool.false_ne_true
  | int i =>
    obtain ⟨t, rfl⟩ := rx
    cases y with
    | non => cases ry; exact PySem.EqNone.eq_int_none (fin_bl I q (by simp))
    | int j => obtain ⟨t', rfl⟩ := ry; exact eq_int (fin_bl I q dec_int)
    | str j => obtain ⟨t', rfl⟩ := ry; exact PySem.EqMixed.eq_int_str (fin_bl I q (by simp))
    | _ => exact absurd (show false = true from hs) Bool.false_ne_true
  | str i =>
    obtain ⟨t, rfl⟩ := rx
    cases y with
    | non => cases ry; exact PySem.EqNone.eq_str_none (fin_bl I q (by simp))
    | bl j => cases ry; exact PySem.EqMixed.eq_str_bool (fin_bl I q (by simp))
    | int j => obtain ⟨t', rfl⟩ := ry; exact PySem.EqMixed.eq_str_int (fin_bl I q (by simp))
    | str j => obtain ⟨t', rfl⟩ := ry; exact eq_str (fin_bl I q dec_str)
    | _ => exact absurd (show false = true from hs) Bool.false_ne_true
  | byt i =>
    obtain ⟨t, rfl⟩ := rx
    cases y with
    | byt j => obtain ⟨t', rfl⟩ := ry; exact PySem.W.eq_bytes (fin_bl I q dec_byt)
    | _ => exact absurd (show false = true from hs) Bool.false_ne_true
  | _ => cases y <;> exact absurd (show false = true from hs) Bool.false_ne_true
theorem op_ne : OpR X (compareOp .NotEq) rNe := by
  intro pins s σ H x y v u Q I rx ry h
  obtain ⟨hs, q⟩ := h
  cases x with
  | non =>
    cases rx
    cases y with
    | non => cases ry; exact PySem.EqNone.ne_none_none (fin_bl I q (by simp))
    | bl j => cases ry; exact PySem.EqNone.ne_none_bool (fin_bl I q (by simp))
    | int j => obtain ⟨t', rfl⟩ := ry; exact PySem.EqNone.ne_none_int (fin_bl I q (by simp))
    | str j => obtain ⟨t', rfl⟩ := ry; exact PySem.EqNone.ne_none_str (fin_bl I q (by simp))
    | _ => exact absurd (show false = true from hs) Bool.false_ne_true
  | bl i =>
    cases rx
    cases y with
    | non => cases ry; exact PySem.EqNone.ne_bool_none (fin_bl I q (by simp))
    | bl j => cases ry; exact ne_bool (fin_bl I q (congrArg not dec_bl))
    | str j => obtain ⟨t', rfl⟩ := ry; exact PySem.EqMixed.ne_bool_str (fin_bl I q (by simp))
    | _ => exact absurd (show false = true from hs) Bool.false_ne_true
  | int i =>
    obtain ⟨t, rfl⟩ := rx
    cases y with
    | non => cases ry; exact PySem.EqNone.ne_int_none (fin_bl I q (by simp))
    | int j => obtain ⟨t', rfl⟩ := ry; exact ne_int (fin_bl I q (congrArg not dec_int))
    | str j => obtain ⟨t', rfl⟩ := ry; exact PySem.EqMixed.ne_int_str (fin_bl I q (by simp))
    | _ => exact absurd (show false = true from hs) Bool.false_ne_true
  | str i =>
    obtain ⟨t, rfl⟩ := rx
    cases y with
    | non => cases ry; exact PySem.EqNone.ne_str_none (fin_bl I q (by simp))
    | bl j => cases ry; exact PySem.EqMixed.ne_str_bool (fin_bl I q (by simp))
    | int j => obtain ⟨t', rfl⟩ := ry; exact PySem.EqMixed.ne_str_int (fin_bl I q (by simp))
    | str j => obtain ⟨t', rfl⟩ := ry; exact ne_str (fin_bl I q (congrArg not dec_str))
    | _ => exact absurd (show false = true from hs) Bool.false_ne_true
  | byt i =>
    obtain ⟨t, rfl⟩ := rx
    cases y with
    | byt j => obtain ⟨t', rfl⟩ := ry; exact PySem.W.ne_bytes (fin_bl I q (congrArg not dec_byt))
    | _ => exact absurd (show false = true from hs) Bool.false_ne_true
  | _ => cases y <;> exact absurd (show false = true from hs) Bool.false_ne_true

theorem op_lt : OpR X (compareOp .Lt) (rI0 fun i j => .bl (decide (i < j))) := opB0 fun _ _ _ _ _ _ _ q => lt_int q
theorem op_le : OpR X (compareOp .LtE) (rI0 fun i j => .bl (decide (i ≤ j))) := opB0 fun _ _ _ _ _ _ _ q => le_int q
theorem op_gt : OpR X (compareOp .Gt) (rI0 fun i j => .bl (decide (j < i))) := opB0 fun _ _ _ _ _ _ _ q => gt_int q
theorem op_notN : OpR X (compareOp .IsNot) (fun x y H Q => y = .non ∧ Q (.bl (!decide (x = .non))) H) := by
  intro pins s σ H x y v u Q I rx ry h
  obtain ⟨rfl, q⟩ := h
  cases ry
  refine isnot_none_gen (fin_bl I q ?_)
  cases x <;> first
    | (cases rx; rfl)
    | (obtain ⟨t, rfl⟩ := rx; rfl)

def isObj : HO → Bool
  | .lst _ => true
  | .ins _ _ _ => true
  | _ => false
theorem nomark (b : Expr) {op : CmpOp} (h : op ≠ .In := by decide) (h2 : op ≠ .NotIn := by decide) : behindInMarks op b = false := by
  have e1 : (op == CmpOp.In) = false := by cases op <;> first | rfl | exact absurd rfl h
  have e2 : (op == CmpOp.NotIn) = false := by cases op <;> first | rfl | exact absurd rfl h2
  cases b <;> simp [behindInMarks, e1, e2]
theorem pe_cmpR {op : CmpOp} {r : R2} (ho : OpR X (compareOp op) r) (ha : PE X a ta) (hb : PE X b tb) (hm : behindInMarks op b = false) : PE X (.Compare a [op] [b] pos) (tOp r ta tb) := by
  intro pins s σ H Q I h
  exact wpAny_Compare1 (binT ha hb I h fun v u s2 x y H2 I2 rx ry q => ho pins s2 σ H2 x y v u Q I2 rx ry q) hm
def tTest (t : TE) : TT := fun σ H Q => t σ H fun x H' => ∃ k, x = .bl k ∧ Q k H'
theorem pt_cmpR {op : CmpOp} {r : R2} (ho : OpR X (compareOp op) r) (ha : PE X a ta) (hb : PE X b tb) (hm : behindInMarks op b = false) : PT X (.Compare a [op] [b] pos) (tTest (tOp r ta tb)) := by
  intro pins s σ H Q I h
  refine wpAny_isTrue_Compare1 (thn (ha pins s σ H _ I h) fun v s1 ⟨x, H1, I1, r1, q1⟩ => thn (hb pins s1 σ H1 _ I1 q1) fun u s2 ⟨y, H2, I2, r2, q2⟩ =>
    thn (ho pins s2 σ H2 x y v u _ I2 r1 r2 q2) fun c s3 ⟨z, H3, I3, r3, k, e, q3⟩ => ?_) hm
  subst e
  cases r3
  exact wpAny_truthy_bool ⟨H3, I3, q3⟩
def tChain (r r' : R2) (ta tb tc : TE) : TE := fun σ H Q => ta σ H fun x H1 => tb σ H1 fun y H2 => r x y H2 fun z H3 => ∃ k, z = .bl k ∧
  (if k = true then tc σ H3 fun w' H4 => r' y w' H4 Q else Q (.bl false) H3)
theorem pt_chain {op op' : CmpOp} {r r' : R2} (ho : OpR X (compareOp op) r) (ho' : OpR X (compareOp op') r') (ha : PE X a ta) (hb : PE X b tb) (hc : PE X c tc)
    (hm : lastMarks [op, op'] [b, c] = false := by with_unfolding_all rfl) : PT X (.Compare a [op, op'] [b, c] pos) (tTest (tChain r r' ta tb tc)) := by
  intro pins s σ H Q I h
  refine isTrue_chain (thn (ha pins s σ H _ I h) fun v s1 ⟨x, H1, I1, r1, q1⟩ => test_link (thn (hb pins s1 σ H1 _ I1 q1) fun u s2 ⟨y, H2, I2, r2, q2⟩ =>
    thn (ho pins s2 σ H2 x y v u _ I2 r1 r2 q2) fun d s3 ⟨z, H3, I3, r3, k, e, q3⟩ => ?_)) hm
  subst e
  cases r3
  refine wpAny_truthy_bool ?_
  cases k with
  | false =>
    obtain ⟨k', e', q'⟩ := q3
    cases e'
    exact ite_ff ⟨H3, I3, q'⟩
  | true =>
    refine ite_tt (test_last (thn (hc pins s3 σ H3 _ I3 q3) fun w' s4 ⟨z', H4, I4, r4, q4⟩ => thn (ho' pins s4 σ H4 y z' u w' _ I4 r2 r4 q4) fun d' s5 ⟨z2, H5, I5, r5, k2, e2, q5⟩ => ?_))
    subst e2
    cases r5
    exact wpAny_truthy_bool ⟨H5, I5, q5⟩

def TruV (K : PySem.W.Frag) (x : V) (H : Hp) (k : Bool) : Prop :=
  match x with
  | .non => k = false
  | .bl b => k = b
  | .int i => k = (i != 0)
  | .str y => y.length ≤ sizeLine ∧ k = ((y.length : Int) != 0)
  | .byt y => y.size ≤ sizeLine ∧ k = ((y.size : Int) != 0)
  | .ref p => (∃ xs, SqL K H p xs ∧ k = !xs.isEmpty) ∨ (∃ xs, SqT K H p xs ∧ k = !xs.isEmpty) ∨ ∃ kvs, H p = some (.dK kvs) ∧ k = !kvs.isEmpty
  | _ => False
theorem isEmpty_kv {κ : Type} {kvs : List (κ × V)} {vs : List (κ × Value)} (r : KV kvs vs) : (!vs.isEmpty) = !kvs.isEmpty := by
  cases r <;> rfl
theorem isEmpty_of {xs : List V} {its : List Value} (r : Vals xs its) : (!its.toArray.isEmpty) = !xs.isEmpty := by
  cases r <;> simp
theorem line63 : (sizeLine : Nat) < 2 ^ 63 := by rw [sizeLine_eq]; decide
theorem tru_ok : TruR X (fun x H Q => ∃ k, TruV X.K x H k ∧ Q k H) := by
  intro pins s σ H x v Q I rx h
  obtain ⟨k, e, q⟩ := h
  have hl := line63
  have hs : sizeLine = 16777216 := sizeLine_eq
  cases x with
  | non =>
    cases rx
    have e' : k = false := e
    subst e'
    exact truthy_none ⟨H, I, q⟩
  | bl b =>
    cases rx
    have e' : k = b := e
    subst e'
    exact wpAny_truthy_bool ⟨H, I, q⟩
  | int i =>
    obtain ⟨t, rfl⟩ := rx
    have e' : k = (i != 0) := e
    subst e'
    exact PySem.P.truthy_int ⟨H, I, q⟩
  | str y =>
    obtain ⟨t, rfl⟩ := rx
    obtain ⟨hy, e'⟩ : y.length ≤ sizeLine ∧ k = ((y.length : Int) != 0) := e
    subst e'
    exact PySem.P.truthy_str (by omega) ⟨H, I.tok _, q⟩
  | byt y =>
    obtain ⟨t, rfl⟩ := rx
    obtain ⟨hy, e'⟩ : y.size ≤ sizeLine ∧ k = ((y.size : Int) != 0) := e
    subst e'
    exact PySem.W.truthy_bytes (by omega) ⟨H, I.tok _, q⟩
  | ref p =>
    cases rx
    have e' : (∃ xs, SqL X.K H p xs ∧ k = !xs.isEmpty) ∨ (∃ xs, SqT X.K H p xs ∧ k = !xs.isEmpty) ∨ ∃ kvs, H p = some (.dK kvs) ∧ k = !kvs.isEmpty := e
    rcases e' with ⟨xs, hx, e'⟩ | ⟨xs, hx, e'⟩ | ⟨kvs, hx, e'⟩
    · subst e'
      obtain ⟨its, r, pl, hz⟩ := I.list hx
      have hlen := r.length
      exact wpAny_truthy_list pl.isList (by simp only [List.size_toArray]; omega) ⟨H, I.tok _, by rw [isEmpty_of r]; exact q⟩
    · subst e'
      obtain ⟨its, r, pl, hz⟩ := I.tuple hx
      have hlen := r.length
      exact truthy_tuple pl (by simp only [List.size_toArray]; omega) ⟨H, I.tok _, by rw [isEmpty_of r]; exact q⟩
    · subst e'
      obtain ⟨hz, hS, vs, r, m⟩ : kvs.length ≤ sizeLine ∧ (p == sysModules) = false ∧ ∃ vs, KV kvs vs ∧ s.heap.DictOf (mixKind X.prog X.w) p vs := I.hok p _ hx
      have hlen : kvs.length = vs.length := Paired.length r
      exact wpAny_truthy_dict hS m (by omega) ⟨H, I.tok _, by rw [isEmpty_kv r]; exact q⟩
  | _ => exact (show False from e).elim
theorem pt_truth (ha : PE X a ta) (he : ∀ whole, isTrue a X.env whole = (do let v ← whole; standAt a.pos; holding [v] (truthy v))) :
    PT X a (fun σ H Q => ta σ H fun x H' => ∃ k, TruV X.K x H' k ∧ Q k H') := by
  intro pins s σ H Q I h
  exact isTrue_plain (thn (ha pins s σ H _ I h) fun v s1 ⟨x, H1, I1, r1, q1⟩ => tru_ok pins s1 σ H1 x v Q I1 r1 q1) (he _)

theorem op_add_str : OpR X (binaryOp .Add) (fun x y H Q => ∃ i j, x = .str i ∧ y = .str j ∧ i.length + j.length ≤ sizeLine ∧ Q (.str (i ++ j)) H) := by
  intro pins s σ H x y v u Q I rx ry h
  obtain ⟨i, j, rfl, rfl, hz, q⟩ := h
  obtain ⟨t, rfl⟩ := rx
  obtain ⟨t', rfl⟩ := ry
  exact add_str (fun t' tk => ⟨.str (i ++ j), H, I.tok _, ⟨_, rfl⟩, q⟩) hz
def PlainIxT (b : Expr) : Prop := ∀ o i, subscripted b false o i = operate [o, i] (getItem o i)
theorem vals1 {x : V} {us : List Value} (r : Vals [x] us) : ∃ u, us = [u] ∧ RelV x u := by
  cases r with
  | cons r1 r2 => cases r2; exact ⟨_, rfl, r1⟩
theorem vals2 {x y : V} {us : List Value} (r : Vals [x, y] us) : ∃ u w', us = [u, w'] ∧ RelV x u ∧ RelV y w' := by
  cases r with
  | cons r1 r2 =>
    cases r2 with
    | cons r3 r4 => cases r4; exact ⟨_, _, rfl, r1, r3⟩
theorem call_min2 (hc : X.calm = true) : CallR X (.builtin "min") (fun xs H Q => ∃ i j, xs = [.int i, .int j] ∧ Q (.int (if j < i then j else i)) H) := by
  intro pins s σ H xs us Q I r h
  obtain ⟨i, j, rfl, q⟩ := h
  obtain ⟨u, w', rfl, ⟨t, rfl⟩, ⟨t', rfl⟩⟩ := vals2 r
  refine min_two_ints (I.ok.hd hc) fun h' tk k => ⟨_, H, I.kept k, ?_, q⟩
  by_cases hj : j < i
  · rw [if_pos hj, if_pos hj]; exact ⟨_, rfl⟩
  · rw [if_neg hj, if_neg hj]; exact ⟨_, rfl⟩
def LenV (K : PySem.W.Frag) (x : V) (H : Hp) (n : Nat) : Prop :=
  match x with
  | .str y => y.length ≤ sizeLine ∧ n = y.length
  | .byt y => y.size ≤ sizeLine ∧ n = y.size
  | .ref p => (∃ xs, SqL K H p xs ∧ n = xs.length) ∨ ∃ xs, SqT K H p xs ∧ n = xs.length
  | _ => False
end
end L2

namespace L2
open PySem PySem.Spec PyProof.Rows

structure ObjM (h : Heap) (x dx C : Addr) (mA : Str → Option Value) : Prop where
  obj : h.get? x = some (PySem.W.instObj C dx)
  ns : h.Ns1 dx mA
  ne : dx ≠ x

section
variable {prog : Program} {w : World} {A : Around} {E : Value → Shared → Prop} {s : Shared} {K : PySem.W.Frag} {x dx C f : Addr} {mA : Str → Option Value} {name : Str} {v : Value}

end

def putF (f : Str) (v : V) : List (Str × V) → List (Str × V)
  | [] => [(f, v)]
  | (g, x) :: r => if g = f then (g, v) :: r else (g, x) :: putF f v r
theorem RelO.some_of {v : V} {o : Option Value} (r : RelO (some v) o) : ∃ u, o = some u ∧ RelV v u := by
  cases o with
  | none => exact (show False from r).elim
  | some u => exact ⟨u, rfl, r⟩
section
variable {P : Program} {w : World} {H H' : Hp} {h h' : Heap} {a C dx : Addr} {fs fs' : List (Str × V)}
end

structure Cls (K : PySem.W.Frag) (C : Addr) : Prop where
  pg : PySem.W.plainGet K C Str.empty = true
  hd : PySem.W.hasDictIn K C = true
  po : PySem.W.plainOver K C = true
  sa : PySem.W.findIn K (.ref C) "__setattr__" = some (some (.builtin "object.__setattr__"))
def NoAttr (K : PySem.W.Frag) (C : Addr) (f : Str) : Prop := PySem.W.findIn K (.ref C) f = some none
structure Con (K : PySem.W.Frag) (C : Addr) (f : Str) (v : V) (u : Value) : Prop where
  at_ : PySem.W.findIn K (.ref C) f = some (some u)
  rel : RelV v u
  get : PySem.W.specialIn K u "__get__" = some none
  cp : PySem.W.copiedNames.contains f = false
structure Meth (K : PySem.W.Frag) (C : Addr) (m : Str) (f : Addr) : Prop where
  at_ : PySem.W.findIn K (.ref C) m = some (some (.ref f))
  fn : PySem.W.isFn K (.ref f) = true
  kp : PySem.W.keepIn K (.ref f) = true

section
variable {X : Cx} {pins : List (Addr × Obj)} {σ : St} {H : Hp} {s : Shared} {a C dx : Addr} {fs : List (Str × V)} {f : Str} {v : V} {A : Around} {E : Value → Shared → Prop}

end

def tFld (K : PySem.W.Frag) (ta : TE) (f : Str) : TE := fun σ H Q => ta σ H fun x H1 => ∃ a C dx fs v, x = .ref a ∧ H1 a = some (.ins C dx fs) ∧ Cls K C ∧ NoAttr K C f ∧ fs.lookup f = some v ∧ Q v H1
def tCon (K : PySem.W.Frag) (ta : TE) (f : Str) : TE := fun σ H Q => ta σ H fun x H1 => ∃ a C dx fs v u, x = .ref a ∧ H1 a = some (.ins C dx fs) ∧ Cls K C ∧ Con K C f v u ∧ fs.lookup f = none ∧ Q v H1
def sFld (K : PySem.W.Frag) (ta tv : TE) (f : Str) : TS := fun D σ H => tv σ H fun y H1 => ta σ H1 fun x H2 => ∃ a C dx fs, x = .ref a ∧ H2 a = some (.ins C dx fs) ∧ Cls K C ∧ NoAttr K C f ∧ fs.length < 1000 ∧
  D.nx σ (upd H2 a (.ins C dx (putF f y fs)))
def InOp (X : Cx) (op : Operator) (rd : V → V → Hp → VK → Prop) : Prop :=
  ∀ (pins : List (Addr × Obj)) (s : Shared) (σ : St) (H : Hp) (x y : V) (u v : Value) (Q : VK), Inv X pins σ H s → RelV x u → RelV y v → rd x y H Q → wpAny (model X.prog X.w) X.A (inplaceOp op u v) (EP X pins σ Q) X.xe s
def sFldAug (K : PySem.W.Frag) (ta tv : TE) (rd : V → V → Hp → VK → Prop) (f : Str) : TS := fun D σ H => ta σ H fun x H1 => ∃ a C dx fs v, x = .ref a ∧ H1 a = some (.ins C dx fs) ∧ Cls K C ∧ NoAttr K C f ∧ fs.lookup f = some v ∧
  tv σ H1 fun y H2 => rd v y H2 fun z H3 => ∃ dx' fs', H3 a = some (.ins C dx' fs') ∧ fs'.length < 1000 ∧ D.nx σ (upd H3 a (.ins C dx' (putF f z fs')))

section
variable {X : Cx} {o e value : Expr} {f : Str} {pos pos' tpos : Pos} {ta tv : TE}
def rAdd : V → V → Hp → VK → Prop := fun x y H Q => ∃ i j, x = .int i ∧ y = .int j ∧ Q (.int (i + j)) H
def rSub : V → V → Hp → VK → Prop := fun x y H Q => ∃ i j, x = .int i ∧ y = .int j ∧ Q (.int (i - j)) H
end

section
variable {X : Cx} {pins : List (Addr × Obj)} {σ : St} {H : Hp} {s : Shared} {A : Around} {E : Value → Shared → Prop} {Q : Value → Shared → Prop} {c : Value} {b : Bool}
inductive TyOf (K : PySem.W.Frag) (H : Hp) : V → Value → Prop where
  | non : TyOf K H .non (.type "NoneType")
  | bl (x : Bool) : TyOf K H (.bl x) (.type "bool")
  | int (i : Int) : TyOf K H (.int i) (.type "int")
  | str (x : Str) : TyOf K H (.str x) (.type "str")
  | flt (x : UInt64) : TyOf K H (.flt x) (.type "float")
  | lst {a : Addr} {xs : List V} (e : H a = some (.lst xs)) : TyOf K H (.ref a) (.type "list")
  | frz {a : Addr} {o : Obj} {xs : List V} (e : H a = some (.frz o (.lst xs))) : TyOf K H (.ref a) (.type "list")
  | tup {a : Addr} {xs : List V} (e : H a = some (.tup xs)) : TyOf K H (.ref a) (.type "tuple")
  | dK {a : Addr} {kvs : List (Key × V)} (e : H a = some (.dK kvs)) : TyOf K H (.ref a) (.type "dict")
  | dT {a : Addr} {kvs : List (List Key × V)} (e : H a = some (.dT kvs)) : TyOf K H (.ref a) (.type "dict")
  | ins {a C dx : Addr} {fs : List (Str × V)} (e : H a = some (.ins C dx fs)) (cl : Cls K C) (ha : PySem.W.findIn K (.ref C) "__class__" = some (some (.builtin "object.__class__")))
      (hn : PySem.W.specialIn K (.builtin "object.__class__") "__get__" = some (some (.builtin "getset_descriptor.__get__"))) (htk : PySem.W.takesIn K (.builtin "object.__class__") = some true)
      (hm : PySem.W.mroIn K C (.type "object") = some true) : TyOf K H (.ref a) (.ref C)
end
end L2

namespace L2
open PySem PySem.Spec PyProof.Rows

structure Room (k : Nat) (A : Around) : Prop where
  hd : A.handled = none
  dp : A.depth + 3 * k + 5 < recursionLimit
  un : A.units + 16 * k + 200 < cLine
theorem Room.mono {j k : Nat} {A : Around} (r : Room k A) (h : j ≤ k) : Room j A := ⟨r.hd, by have := r.dp; omega, by have := r.un; omega⟩
theorem Room.deeper {k : Nat} {A : Around} (r : Room (k + 1) A) (env : Env) : Room k (A.deeper env) :=
  ⟨r.hd, by have := r.dp; show A.depth + 1 + 3 * k + 5 < _; omega, by have := r.un; show A.units + 3 + 16 * k + 200 < _; omega⟩
theorem Room.in1 {k : Nat} {A : Around} (r : Room (k + 1) A) : Room k A.in1 :=
  ⟨r.hd, by have := r.dp; show A.depth + 3 * k + 5 < _; omega, by have := r.un; show A.units + 1 + 16 * k + 200 < _; omega⟩
theorem Room.depth {k : Nat} {A : Around} (r : Room k A) : A.depth < recursionLimit := by have := r.dp; omega
theorem Room.units {k : Nat} {A : Around} (r : Room k A) : A.units + 64 < cLine := by have := r.un; omega
def tNil : TA := fun _ H Q => Q [] H
def tCons (ta : TE) (tr : TA) : TA := fun σ H Q => ta σ H fun x H1 => tr σ H1 fun xs H2 => Q (x :: xs) H2
section
variable {X : Cx} {e : Expr} {es : List Expr} {te : TE} {t : TA} {pos : Pos}
theorem pa_nil : PA X [] tNil := fun _ _ _ _ H Q I h => Calls.spliced_nil ⟨[], H, I, .nil, h⟩
theorem pa_cons (ha : PE X e te) (hr : PA X es t) (hs : starEach (e :: es) X.env = (false, eval e X.env) :: starEach es X.env := by rfl) : PA X (e :: es) (tCons te t) := by
  intro pos pins s σ H Q I h
  rw [hs]
  show wpAny _ _ (spliced ((false, eval e X.env) :: backTo pos (starEach es X.env))) _ _ s
  refine Calls.spliced_cons (thn (ha pins s σ H _ I h) fun u s1 ⟨x, H1, I1, r1, q1⟩ => ?_)
  exact thn (hr pos pins s1 σ H1 _ I1 q1) fun us s2 ⟨xs, H2, I2, r2, q2⟩ => ⟨x :: xs, H2, I2, .cons r1 r2, q2⟩

def tTup (t : TA) : TE := fun σ H Q => t σ H fun xs H1 => xs.length ≤ sizeLine ∧ ∀ p, H1 p = none → Q (.ref p) (upd H1 p (.tup xs))
def tLst (t : TA) : TE := fun σ H Q => t σ H fun xs H1 => xs.length ≤ sizeLine ∧ ∀ p, H1 p = none → Q (.ref p) (upd H1 p (.lst xs))
theorem pe_tup {x1} (h : PA X es t) : PE X (.Tuple es x1 pos) (tTup t) := by
  intro pins s σ H Q I hq
  refine wpAny_Tuple_spliced (thn (h pos pins s σ H _ I hq) fun us s1 ⟨xs, H1, I1, r, z, q⟩ => ⟨by rw [← r.length]; exact z, ?_⟩)
  have hf : H1 s1.heap.objs.size = none := I1.hok.fresh (Nat.le_refl _)
  refine ⟨.ref s1.heap.objs.size, upd H1 s1.heap.objs.size (.tup xs), I1.laid (t' := s1.toks) (fun b u e => Heap.get?_push_of_some _ e) (Nat.le_refl _) ?_, rfl, q _ hf⟩
  exact ⟨z, us, r, ⟨_, Heap.get?_push_size _ rfl, rfl, _, rfl⟩⟩
theorem pe_lst (h : PA X es t) : PE X (.List es pos) (tLst t) := by
  intro pins s σ H Q I hq
  refine wpAny_List_spliced (thn (h pos pins s σ H _ I hq) fun us s1 ⟨xs, H1, I1, r, z, q⟩ => ⟨by rw [← r.length]; exact z, ?_⟩)
  have hf : H1 s1.heap.objs.size = none := I1.hok.fresh (Nat.le_refl _)
  refine ⟨.ref s1.heap.objs.size, upd H1 s1.heap.objs.size (.lst xs), I1.laid (t' := s1.toks) (fun b u e => Heap.get?_push_of_some _ e) (Nat.le_refl _) ?_, rfl, q _ hf⟩
  exact ⟨z, us, 0, r, Heap.get?_push_size _ rfl⟩
end

abbrev Sp := List V → Hp → VK → XK → Prop
abbrev CXT := List Env → Hp → Shared → XK → Value → Shared → Prop

structure Env0 (P : Program) (w : World) (K : PySem.W.Frag) (mg : Str → Option Value) (base : Heap) (A : Around) (outer : List Env) (s : Shared) (H : Hp) : Prop where
  frames : A.frames = some outer
  mod : Mod K mg base
  bs : ∀ b o, base.get? b = some o → s.heap.get? b = some o ∧ H b = none
  bsz : base.objs.size ≤ s.heap.objs.size
  funs : s.heap.FunFrames base outer
  frf : ∀ b ∈ frs outer, H b = none
  hok : HOk P w H s.heap
  bare : AllBare s.gens
def CE (outer : List Env) (P : Program) (w : World) (H : Hp) (s : Shared) (Q : VK) (u : Value) (s' : Shared) : Prop :=
  ∃ v H', s'.os = s.os ∧ AllBare s'.gens ∧ Un (frs outer) [] H H' s.heap s'.heap ∧ HOk P w H' s'.heap ∧ RelV v u ∧ Q v H'
def CR (CX : CXT) (outer : List Env) (P : Program) (w : World) (H : Hp) (s : Shared) (Q : VK) (E : XK) (r : Result) (s' : Shared) : Prop :=
  match r with
  | .ok (.ret u) => CE outer P w H s Q u s'
  | .ok _ => False
  | .error e => CX outer H s E e s'
structure FnOk (P : Program) (w : World) (K : PySem.W.Frag) (mg : Str → Option Value) (base : Heap) (CX : CXT) (k : Nat) (f : Addr) (fd : FuncData) (ps : List Str) (sp : Sp) : Prop where
  len : ∀ vs H Q E, sp vs H Q E → vs.length = ps.length
  run : ∀ (A : Around) (outer : List Env) (s : Shared) (H : Hp) (args : Args) (us : List Value) (vs : List V) (Q : VK) (E : XK), Room k A → Env0 P w K mg base A outer s H → BindsTo s fd args (ps.zip us) → Vals vs us → sp vs H Q E →
    codeAny (model P w) A (.call (.ref f) args) (CR CX outer P w H s Q E) s
theorem FnOk.mono {P : Program} {w : World} {K : PySem.W.Frag} {mg : Str → Option Value} {base : Heap} {CX : CXT} {j k : Nat} {f : Addr} {fd : FuncData} {ps : List Str} {sp : Sp} (F : FnOk P w K mg base CX j f fd ps sp) (h : j ≤ k) :
    FnOk P w K mg base CX k f fd ps sp := ⟨F.len, fun A outer s H args us vs Q E hr => F.run A outer s H args us vs Q E (hr.mono h)⟩
theorem Env0.in1 {P : Program} {w : World} {K : PySem.W.Frag} {mg : Str → Option Value} {base : Heap} {A : Around} {outer : List Env} {s : Shared} {H : Hp} (e : Env0 P w K mg base A outer s H) :
    Env0 P w K mg base A.in1 outer s H := ⟨e.frames, e.mod, e.bs, e.bsz, e.funs, e.frf, e.hok, e.bare⟩

section
variable {X : Cx} {pins : List (Addr × Obj)} {σ : St} {H : Hp} {s s' : Shared}
theorem Inv.env0 (I : Inv X pins σ H s) : Env0 X.prog X.w X.K X.mg X.base X.A X.stack s H :=
  ⟨I.ok.frames, I.ok.mod, I.bs, Nat.le_trans I.ok.bsz I.sz, I.stack, I.stkFree, I.hok, I.bare⟩
theorem Inv.after {Q : VK} {u : Value} (I : Inv X pins σ H s) (h : CE X.stack X.prog X.w H s Q u s') : EP X pins σ Q u s' := by
  obtain ⟨v, H', os, bare, un, hok, r, q⟩ := h
  obtain ⟨hh, g, d, t, os'⟩ := s'
  obtain rfl : os' = s.os := os
  exact ⟨v, H', I.call (h' := hh) (g' := g) (d' := d) (t' := t) (ch := []) un hok bare (fun b z => absurd z (by simp)), r, q⟩
end

def tCall (sp : Sp) (dvs : List V) (E : XK) (t : TA) : TE := fun σ H Q => t σ H fun vs H1 => sp (vs ++ dvs) H1 Q E
def tMeth (C : Addr) (m : Str) (sp : Sp) (dvs : List V) (E : XK) (ta : TE) (t : TA) : TE := fun σ H Q => ta σ H fun x H1 => ∃ a dx fs, x = .ref a ∧ H1 a = some (.ins C dx fs) ∧ fs.lookup m = none ∧
  t σ H1 fun vs H2 => sp (x :: (vs ++ dvs)) H2 Q E
def tMake (C : Addr) (sp : Sp) (dvs : List V) (E : XK) (t : TA) : TE := fun σ H Q => t σ H fun vs H1 => ∀ x dx, H1 x = none → H1 dx = none → dx ≠ x →
  sp (.ref x :: (vs ++ dvs)) (upd (upd H1 dx (.own x)) x (.ins C dx [])) (fun v H2 => v = .non ∧ Q (.ref x) H2) E

def Binds (K : PySem.W.Frag) (fd : FuncData) (ps : List Str) (ds : List Value) : Prop :=
  ∀ (s : Shared) (us : List Value), K.In s.heap → (us ++ ds).length = ps.length → BindsTo s fd ⟨us, []⟩ (ps.zip (us ++ ds))
theorem Binds.all {K : PySem.W.Frag} {fd : FuncData} {ps : List Str} (h : ∀ us : List Value, us.length = ps.length → bindArgs fd ⟨us, []⟩ = pure (ps.zip us)) : Binds K fd ps [] := fun s us _ hl => by
  rw [List.append_nil] at hl ⊢
  exact .of_eq (h us hl)

def Passes (CX : CXT) (X : Cx) (E : XK) : Prop := ∀ (pins : List (Addr × Obj)) (σ : St) (H : Hp) (s : Shared) (e : Value) (s' : Shared), Inv X pins σ H s → CX X.stack H s E e s' → X.xe e s'

section
variable {X : Cx} {CX : CXT} {k : Nat} {f C : Addr} {fd : FuncData} {ps : List Str} {sp : Sp} {dvs : List V} {ds : List Value} {E : XK} {x m : Str} {p pos apos : Pos} {e o : Expr} {es : List Expr} {ta : TE} {t : TA}

theorem run_fn {pins : List (Addr × Obj)} {σ : St} {H : Hp} {s : Shared} {Q : VK} {us : List Value} {vs : List V} (F : FnOk X.prog X.w X.K X.mg X.base CX k f fd ps sp) (hr : Room k X.A) (hb : Binds X.K fd ps ds) (hd : Vals dvs ds) (hx : Passes CX X E)
    (I : Inv X pins σ H s) (r : Vals vs us) (h : sp (vs ++ dvs) H Q E) : wpAny (model X.prog X.w) X.A (call (.ref f) us) (EP X pins σ Q) X.xe s := by
  have r2 : Vals (vs ++ dvs) (us ++ ds) := r.append hd
  have hl : (us ++ ds).length = ps.length := by rw [← r2.length]; exact F.len _ _ _ _ h
  refine wpAny_call (codeAny_mono (F.run X.A X.stack s H ⟨us, []⟩ (us ++ ds) (vs ++ dvs) Q E hr I.env0 (hb s us I.kIn hl) r2 h) fun r s' hq => ?_)
  cases r with
  | error e => exact hx pins σ H s e s' I hq
  | ok fl =>
    cases fl with
    | ret u => exact I.after hq
    | next => exact False.elim hq
    | brk => exact False.elim hq
    | cont => exact False.elim hq

theorem pe_call (F : FnOk X.prog X.w X.K X.mg X.base CX k f fd ps sp) (hr : Room k X.A) (hg : Gl X x) (hm : X.mg x = some (.ref f)) (hk : PySem.W.keepIn X.K (.ref f) = true) (hb : Binds X.K fd ps ds) (hd : Vals dvs ds) (hx : Passes CX X E)
    (ha : PA X (e :: es) t) (hdb : (x == ("__debug__" : Str)) = false := by decide) (he : starEach (e :: es) X.env = (false, eval e X.env) :: starEach es X.env := by rfl) (hpl : (backTo pos (starEach es X.env)).any (·.1) = false := by rfl) :
    PE X (.Call (.Name x p) (e :: es) [] pos) (tCall sp dvs E t) := by
  intro pins s σ H Q I h
  refine wpAny_Call_Name_kw (ld_glob I hg hm ?_ hdb)
  refine PySem.W.callWith_K (h₀ := X.base) I.ok.mod.kin hk (thn (ha pos pins s σ H _ I h) fun us s1 ⟨vs, H1, I1, r, q⟩ => ⟨I1.kIn, ?_⟩) he hpl
  exact run_fn F hr hb hd hx I1 r q
structure Mk (K : PySem.W.Frag) (C f : Addr) : Prop where
  makes : PySem.W.makesIn K C = true
  init : PySem.W.findIn K (.ref C) "__init__" = some (some (.ref f))
  fn : PySem.W.isFn K (.ref f) = true
  kp : PySem.W.keepIn K (.ref C) = true

end

def PK (X : Cx) (kws : List Keyword) (t : TA) : Prop :=
  ∀ (pos : Pos) (pins : List (Addr × Obj)) (s : Shared) (σ : St) (H : Hp) (Q : List V → Hp → Prop), Inv X pins σ H s → t σ H Q → wpAny (model X.prog X.w) X.A (evalAll ((backToKw pos (keywordEach kws X.env)).map (·.2))) (AP X pins σ Q) X.xe s
section
variable {X : Cx} {CX : CXT} {k : Nat} {f C : Addr} {fd : FuncData} {ps ks : List Str} {sp : Sp} {E : XK} {x m : Str} {p pos apos kpos : Pos} {e o : Expr} {es : List Expr} {kws : List Keyword} {te ta : TE} {t tk : TA} {nm : Option Str}
theorem pk_nil : PK X [] tNil := fun _ _ _ _ H Q I h => wpAny_evalAll_nil ⟨[], H, I, .nil, h⟩
theorem pk_cons (ha : PE X e te) (hr : PK X kws t) : PK X (⟨nm, e, kpos⟩ :: kws) (tCons te t) := by
  intro pos pins s σ H Q I h
  show wpAny _ _ (evalAll ((do let v ← eval e X.env; standAt pos; pure v) :: (backToKw pos (keywordEach kws X.env)).map (·.2))) _ _ s
  refine wpAny_evalAll_cons (wpAny_bind (thn (ha pins s σ H _ I h) fun u s1 ⟨x, H1, I1, r1, q1⟩ => wpAny_bind (wpAny_standAt (wpAny_pure ?_))))
  exact thn (hr pos pins s1 σ H1 _ I1 q1) fun us s2 ⟨xs, H2, I2, r2, q2⟩ => ⟨x :: xs, H2, I2, .cons r1 r2, q2⟩

structure KBinds (K : PySem.W.Frag) (fd : FuncData) (ps ks : List Str) (g : List Value → List Value → List Value) (gV : List V → List V → List V) : Prop where
  to : ∀ (s : Shared) (us ws : List Value), K.In s.heap → (g us ws).length = ps.length → BindsTo s fd ⟨us, ks.zip ws⟩ (ps.zip (g us ws))
  rel : ∀ {vs : List V} {us : List Value} {zs : List V} {ws : List Value}, Vals vs us → Vals zs ws → Vals (gV vs zs) (g us ws)
def tCallK (sp : Sp) (gV : List V → List V → List V) (E : XK) (t tk : TA) : TE := fun σ H Q => t σ H fun vs H1 => tk σ H1 fun zs H2 => sp (gV vs zs) H2 Q E
variable {g : List Value → List Value → List Value} {gV : List V → List V → List V}
end

structure FnScope (N P : List Str) (sc : Scope) : Prop where
  kind : sc.kind = .function
  co : sc.isCoroutine = false
  gen : sc.isGenerator = false
  nd : N.Nodup
  pre : N.take P.length = P
  par : ∀ x ∈ P, sc.names.lookup x = some .local ∨ sc.names.lookup x = some .cell
  nofree : ∀ y ∈ sc.names, y.2 ≠ .free

theorem bindL_out {kindOf : Str → Option NameKind} {x : Str} : ∀ {binds : List (Str × Value)} {m : Str → Option Value}, (∀ v, (x, v) ∉ binds) → bindL kindOf binds m x = m x
  | [], _, _ => rfl
  | (n, v) :: r, m, h => by
    unfold bindL
    rw [bindL_out fun w hw => h w (List.mem_cons_of_mem _ hw)]
    split
    · have : x ≠ n := by rintro rfl; exact h v List.mem_cons_self
      simp [this]
    · rfl
theorem bindC_out {kindOf : Str → Option NameKind} {x : Str} : ∀ {binds : List (Str × Value)} {m : Str → Option Value}, (∀ v, (x, v) ∉ binds) → bindC kindOf binds m x = m x
  | [], _, _ => rfl
  | (n, v) :: r, m, h => by
    unfold bindC
    rw [bindC_out fun w hw => h w (List.mem_cons_of_mem _ hw)]
    split
    · rfl
    · have : x ≠ n := by rintro rfl; exact h v List.mem_cons_self
      simp [this]
theorem bindL_get {kindOf : Str → Option NameKind} {x : Str} {v : Value} : ∀ {P : List Str} {vs : List Value} {i : Nat} {m : Str → Option Value}, P.Nodup → P[i]? = some x → vs[i]? = some v → kindOf x = some .local →
    bindL kindOf (P.zip vs) m x = some v
  | [], _, _, _, _, h, _, _ => by simp at h
  | _ :: _, [], _, _, _, _, h, _ => by simp at h
  | p :: P, w :: vs, 0, m, nd, h1, h2, hk => by
    simp at h1 h2; subst h1; subst h2
    show bindL kindOf ((p, w) :: P.zip vs) m p = _
    unfold bindL
    rw [bindL_out fun v hv => (List.nodup_cons.mp nd).1 (List.of_mem_zip hv).1, if_pos hk]
    simp
  | p :: P, w :: vs, i + 1, m, nd, h1, h2, hk => by
    show bindL kindOf ((p, w) :: P.zip vs) m x = _
    unfold bindL
    exact bindL_get (i := i) (List.nodup_cons.mp nd).2 (by simpa using h1) (by simpa using h2) hk
theorem bindC_get {kindOf : Str → Option NameKind} {x : Str} {v : Value} : ∀ {P : List Str} {vs : List Value} {i : Nat} {m : Str → Option Value}, P.Nodup → P[i]? = some x → vs[i]? = some v → kindOf x ≠ some .local →
    bindC kindOf (P.zip vs) m x = some v
  | [], _, _, _, _, h, _, _ => by simp at h
  | _ :: _, [], _, _, _, _, h, _ => by simp at h
  | p :: P, w :: vs, 0, m, nd, h1, h2, hk => by
    simp at h1 h2; subst h1; subst h2
    show bindC kindOf ((p, w) :: P.zip vs) m p = _
    unfold bindC
    rw [bindC_out fun v hv => (List.nodup_cons.mp nd).1 (List.of_mem_zip hv).1, if_neg hk]
    simp
  | p :: P, w :: vs, i + 1, m, nd, h1, h2, hk => by
    show bindC kindOf ((p, w) :: P.zip vs) m x = _
    unfold bindC
    exact bindC_get (i := i) (List.nodup_cons.mp nd).2 (by simpa using h1) (by simpa using h2) hk

def start (N : List Str) (vs : List V) : St := vs.map some ++ List.replicate (N.length - vs.length) none

def cxOf (CX : CXT) (P : Program) (w : World) (K : PySem.W.Frag) (mg : Str → Option Value) (base : Heap) (N : List Str) (qual : Str) (scope : Scope) (f : Addr) (cd : Value) (A : Around) (outer : List Env) (s : Shared) (H : Hp) (E : XK) : Cx where
  prog := P
  w := w
  K := K
  mg := mg
  base := base
  A := A.deeper (envOfC qual scope s.heap.objs.size f cd)
  N := N
  s₀ := s
  H₀ := H
  env := envOfC qual scope s.heap.objs.size f cd
  outer := outer
  stack := envOfC qual scope s.heap.objs.size f cd :: outer
  ex := []
  calm := true
  fn := fun _ => true
  pn := []
  xe := fun e s' => wpAny (model P w) (A.deeper (envOfC qual scope s.heap.objs.size f cd)) (leaving (envOfC qual scope s.heap.objs.size f cd) e) (fun _ s'' => CX outer H s E e s'') (fun e' s'' => CX outer H s E e' s'') s'

theorem cell_has {sc : Scope} {n : Nat} {x : Str} (h : sc.names.lookup x = some .cell) : ∃ c, (cellsFrom n sc.names []).lookup x = some c := by
  have q := PySem.W.cellsFrom_some sc.names n [] (.inl h)
  exact Option.isSome_iff_exists.mp q

theorem inv_start {CX : CXT} {P : Program} {w : World} {K : PySem.W.Frag} {mg : Str → Option Value} {base : Heap} {N ps : List Str} {qual : Str} {scope : Scope} {f : Addr} {cd : Value} {A : Around} {outer : List Env} {s s1 : Shared} {H : Hp} {E : XK} {us : List Value} {vs : List V}
    (S : FnScope N ps scope) (hd : A.handled = none) (e0 : Env0 P w K mg base A outer s H) (hl : vs.length = ps.length) (r : Vals vs us)
    (x : InCallC s s.heap.objs.size (bindL (envOfC qual scope s.heap.objs.size f cd).kindOf (ps.zip us) fun _ => none) (cellsFrom (s.heap.objs.size + 1) scope.names []) (bindC (envOfC qual scope s.heap.objs.size f cd).kindOf (ps.zip us) fun _ => none) s1) :
    Inv (cxOf CX P w K mg base N qual scope f cd A outer s H E) [] (start N vs) H s1 := by
  have hpl : ps.length ≤ N.length := by have := congrArg List.length S.pre; rw [List.length_take] at this; omega
  obtain ⟨h1, tk, rfl, hk⟩ := x.done
  have noA : ∀ b : Addr, b ∉ (cxOf CX P w K mg base N qual scope f cd A outer s H E).ex := fun b z => absurd (show b ∈ ([] : List Addr) from z) (by simp)
  refine ⟨⟨e0.mod, S.kind, rfl, rfl, Nat.le_refl _, fun y z c h1 h2 => ?_, fun y hy => ?_, fun y c _ h => ?_, fun _ => hd, Around.frames_deeper e0.frames, .inr ⟨rfl, rfl⟩, fun b z => absurd z (noA b), e0.bs, e0.bsz, fun b _ _ => noA b, fun b z => absurd z (noA b), e0.funs, e0.frf⟩,
    rfl, e0.bare, Un.kept hk, ⟨_, x.toInCall.ns, fun i y v h1 h2 h3 => ?_⟩, fun y c h => ⟨_, x.cell y c h⟩, e0.hok.fresh (Nat.le_refl _), fun y c h => ?_, fun p hp => absurd (show p ∈ ([] : List (Addr × Obj)) from hp) (by simp), e0.hok.kept hk, ?_⟩
  · exact name_of_addr x.apart (PySem.mem_of_lookup h1) (PySem.mem_of_lookup h2)
  · have hy : scope.names.lookup y = some .cell ∨ scope.names.lookup y = some .free := hy
    rcases hy with hy | hy
    · exact cell_has hy
    · exact absurd rfl (S.nofree _ (PySem.mem_of_lookup hy))
  · exact Nat.le_of_lt (x.above y c (PySem.mem_of_lookup h))
  · have hi : i < vs.length := by
      unfold start at h2
      by_cases hi : i < vs.length
      · exact hi
      · rw [List.getElem?_append_right (by simpa using hi)] at h2
        rw [List.getElem?_replicate] at h2
        split at h2 <;> cases h2
    have ha : vs[i]? = some v := by
      unfold start at h2
      rw [List.getElem?_append_left (by simpa using hi), List.getElem?_map] at h2
      cases e : vs[i]? with
      | none => rw [e] at h2; cases h2
      | some a => rw [e] at h2; cases h2; rfl
    obtain ⟨u, hu, rv⟩ := r.get ha
    have hp : ps[i]? = some y := by
      rw [← S.pre, List.getElem?_take_of_lt (by omega)]; exact h1
    have ndP : ps.Nodup := by rw [← S.pre]; exact S.nd.sublist (List.take_sublist _ _)
    refine ⟨u, rv, ?_⟩
    rcases S.par y (List.mem_of_getElem? hp) with k | k
    · exact .inl ⟨k, bindL_get ndP hp hu k⟩
    · obtain ⟨c, e⟩ := cell_has (n := s.heap.objs.size + 1) k
      refine .inr ⟨.inl k, c, e, ?_⟩
      have q := x.cell y c e
      rw [bindC_get ndP hp hu (by show scope.names.lookup y ≠ _; rw [k]; decide)] at q
      exact q
  · exact e0.hok.fresh (Nat.le_of_lt (x.above y c (PySem.mem_of_lookup h)))
  · unfold start
    show _ = N.length
    rw [List.length_append, List.length_map, List.length_replicate]
    omega

theorem fn_of {CX : CXT} {P : Program} {w : World} {K : PySem.W.Frag} {mg : Str → Option Value} {base : Heap} {k : Nat} {f : Addr} {name qual : Str} {params : Arguments} {body : List Stmt} {scope : Scope} {dV kV doc pm cdv ct oc : Value} {an od : Option Addr}
    {osl : Array (Option Value)} {N ps : List Str} {sp : Sp} (lk : K.lookup f = some ⟨oc, od, .func (PySem.W.fnOf name qual params body scope dV kV doc pm an cdv ct), osl⟩) (hcd : PySem.W.codeIn K cdv qual = true) (S : FnScope N ps scope)
    (len : ∀ vs H Q E, sp vs H Q E → vs.length = ps.length)
    (hbody : ∀ (A : Around) (outer : List Env) (s : Shared) (H : Hp) (vs : List V) (Q : VK) (E : XK), Room k (A.deeper (envOfC qual scope s.heap.objs.size f cdv)) → sp vs H Q E →
      ∃ t, PSs (cxOf CX P w K mg base N qual scope f cdv A outer s H E) body t ∧ t { nx := fun _ H' => Q .non H', rt := Q } (start N vs) H) :
    FnOk P w K mg base CX (k + 1) f (PySem.W.fnOf name qual params body scope dV kV doc pm an cdv ct) ps sp := by
  refine ⟨len, fun A outer s H args us vs Q E hr e0 hb r hsp => ?_⟩
  have hl := len _ _ _ _ hsp
  have KX : K.In s.heap := e0.mod.kin.keeps fun b o e => (e0.bs b o e).1
  have lim : s.heap.NoLimit := e0.mod.nolimit.keeps fun b o e => (e0.bs b o e).1
  have hkind : ∀ y ∈ ps.zip us, scope.names.lookup y.1 = some .local ∨ (scope.names.lookup y.1 = some .cell ∧ ((cellsFrom (s.heap.objs.size + 1) scope.names []).lookup y.1).isSome = true) := fun ⟨n, v⟩ hy => by
    rcases S.par n (List.of_mem_zip hy).1 with q | q
    · exact .inl q
    · exact .inr ⟨q, PySem.W.cellsFrom_some _ _ _ (.inl q)⟩
  refine codeAny_call_function hr.depth (KX _ _ lk) rfl S.co S.gen rfl (PySem.W.codeRec_of KX hcd) (hb _ _ _ _ ?_)
  refine wpAny_newFunctionEnv_cells S.kind hkind fun env he s1 x => ?_
  subst he
  refine ⟨lim.keeps x.toInCall.keep, codeAny_func ?_⟩
  obtain ⟨t, ht, hq⟩ := hbody A outer s H vs Q E (hr.deeper _) hsp
  have I : Inv (cxOf CX P w K mg base N qual scope f cdv A outer s H E) [] (start N vs) H s1 := inv_start S hr.hd e0 hl r x
  refine wpAny_mono (ht [] s1 (start N vs) H _ I hq) (fun fl s' hs => ?_) fun e s' hs => hs
  have fin : ∀ {σ' : St} {H' : Hp} {v : V} {u : Value}, Inv (cxOf CX P w K mg base N qual scope f cdv A outer s H E) [] σ' H' s' → RelV v u → Q v H' → CE outer P w H s Q u s' :=
    fun {σ' H' v u} J rv q => ⟨v, H', J.os, J.bare, J.base, J.hok, rv, q⟩
  cases fl with
  | ret u =>
    obtain ⟨v, σ', H', J, rv, q⟩ := hs
    exact fin J rv q
  | next =>
    obtain ⟨σ', H', J, q⟩ := hs
    exact fin (v := V.non) (u := Value.none) J rfl q
  | brk =>
    obtain ⟨_, _, _, q⟩ := hs
    exact False.elim q
  | cont =>
    obtain ⟨_, _, _, q⟩ := hs
    exact False.elim q
end L2

namespace L2
open PySem PySem.Spec PyProof.Rows
section
variable {X : Cx} {x : Str} {p pos : Pos} {e : Expr} {es : List Expr} {t : TA} {id T : String} {r : List V → Hp → VK → Prop}

def tCB (r : List V → Hp → VK → Prop) (t : TA) : TE := fun σ H Q => t σ H fun vs H1 => r vs H1 Q
theorem pe_callB (hc : CallR X (.builtin id) r) (hg : Gl X x) (hm : X.mg x = none) (hv : bootBuiltins x = some (.builtin id)) (ha : PA X (e :: es) t) (hn : x ≠ "__name__" := by decide) (hdb : (x == ("__debug__" : Str)) = false := by decide)
    (he : starEach (e :: es) X.env = (false, eval e X.env) :: starEach es X.env := by rfl) (hpl : (backTo pos (starEach es X.env)).any (·.1) = false := by rfl) : PE X (.Call (.Name x p) (e :: es) [] pos) (tCB r t) := by
  intro pins s σ H Q I h
  refine wpAny_Call_Name_kw (ld_blt I hg hm hv ?_ hn hdb)
  exact PyProof.Rows.callWith_builtin1 (thn (ha pos pins s σ H _ I h) fun us s1 ⟨vs, H1, I1, r1, q1⟩ => hc pins s1 σ H1 vs us Q I1 r1 q1) he hpl
theorem pe_callTy (hc : CallR X (.type T) r) (hg : Gl X x) (hm : X.mg x = none) (hv : bootBuiltins x = some (.type T)) (ha : PA X (e :: es) t) (hn : x ≠ "__name__" := by decide) (hdb : (x == ("__debug__" : Str)) = false := by decide)
    (he : starEach (e :: es) X.env = (false, eval e X.env) :: starEach es X.env := by rfl) (hpl : (backTo pos (starEach es X.env)).any (·.1) = false := by rfl) : PE X (.Call (.Name x p) (e :: es) [] pos) (tCB r t) := by
  intro pins s σ H Q I h
  refine wpAny_Call_Name_kw (ld_blt I hg hm hv ?_ hn hdb)
  exact PyProof.Rows.callWith_type1 (thn (ha pos pins s σ H _ I h) fun us s1 ⟨vs, H1, I1, r1, q1⟩ => hc pins s1 σ H1 vs us Q I1 r1 q1) he hpl
end
end L2

namespace HT
open PySem PyProof.Rows

def lexLt : List Int → List Int → Bool
  | [], [] => false
  | [], _ :: _ => true
  | _ :: _, [] => false
  | x :: xs, y :: ys => if x = y then lexLt xs ys else decide (x < y)
section
open PySem.SeqAt
open PySem.AutoSeq1 (wpAny_loadPart')
open PySem.MeetsSeq PySem.MeetsSeq2 PySem.MeetsSeq3

end

section
variable {prog : Program} {w : World} {A : Around} {E : Value → Shared → Prop} {s : Shared}

def sIx (n d : Nat) : Option Int → Nat
  | none => d
  | some v => if v < 0 then (v + (n : Int)).toNat else min v.toNat n
theorem sIx_nat (n d k : Nat) : sIx n d (some (k : Int)) = min k n := by
  show (if (k : Int) < 0 then ((k : Int) + (n : Int)).toNat else min (k : Int).toNat n) = min k n
  rw [if_neg (by omega), Int.toNat_natCast]
end
end HT

namespace L2
open PySem PySem.Spec PyProof.Rows

abbrev TO := St → Hp → (Option Int → Hp → Prop) → Prop
def PO (X : Cx) (e : Option Expr) (t : TO) : Prop :=
  ∀ (pins : List (Addr × Obj)) (s : Shared) (σ : St) (H : Hp) (Q : Option Int → Hp → Prop), Inv X pins σ H s → t σ H Q →
    wpAny (model X.prog X.w) X.A (evalPart e X.env) (fun u s' => ∃ o H', Inv X pins σ H' s' ∧ IsPart u o ∧ Q o H') X.xe s
def tNoPart : TO := fun _ H Q => Q none H
def tPart (t : TE) : TO := fun σ H Q => t σ H fun x H1 => ∃ i, x = .int i ∧ Q (some i) H1

section
variable {X : Cx} {e : Expr} {te : TE} {lo hi : Option Expr} {tl th : TO} {pos p2 : Pos}

theorem po_none : PO X none tNoPart := by
  intro pins s σ H Q I h
  rw [evalPart_none]
  exact wpAny_pure ⟨none, H, I, .none, h⟩
theorem po_some (h : PE X e te) : PO X (some e) (tPart te) := by
  intro pins s σ H Q I hw
  rw [evalPart_some]
  refine thn (h pins s σ H _ I hw) fun u s1 ⟨x, H1, I1, r1, q1⟩ => ?_
  obtain ⟨i, rfl, q⟩ := q1
  obtain ⟨t, rfl⟩ := r1
  exact ⟨some i, H1, I1, .int i t, q⟩

def SlR (X : Cx) (r : V → Option Int → Option Int → Hp → VK → Prop) : Prop :=
  ∀ (pins : List (Addr × Obj)) (s : Shared) (σ : St) (H : Hp) (x : V) (v vl vu : Value) (lo hi : Option Int) (sl : Addr) (Q : VK), Inv X pins σ H s → RelV x v → s.heap.IsSliceOf sl vl vu .none → IsPart vl lo → IsPart vu hi → r x lo hi H Q →
    ∃ T id, typeLookup (.type T) "__getitem__" = pure (some (.builtin id)) ∧ s.TypeIs v T ∧ wpAny (model X.prog X.w) X.A (getItem v (.ref sl)) (EP X pins σ Q) X.xe s
def tSl (r : V → Option Int → Option Int → Hp → VK → Prop) (te : TE) (tl th : TO) : TE := fun σ H Q => te σ H fun x H1 => tl σ H1 fun l H2 => th σ H2 fun u H3 => r x l u H3 Q
theorem pe_slice {r : V → Option Int → Option Int → Hp → VK → Prop} (hr : SlR X r) (he : PE X e te) (hl : PO X lo tl) (hu : PO X hi th) : PE X (.Subscript e (.Slice lo hi none p2) pos) (tSl r te tl th) := by
  intro pins s σ H Q I h
  refine Subscript_ (thn (he pins s σ H _ I h) fun v s1 ⟨x, H1, I1, r1, q1⟩ => ?_)
  refine wpAny_Slice (thn (hl pins s1 σ H1 _ I1 q1) fun vl s2 ⟨l, H2, I2, pl, q2⟩ => thn (hu pins s2 σ H2 _ I2 q2) fun vu s3 ⟨u, H3, I3, pu, q3⟩ => ?_)
  rw [evalPart_none]
  refine wpAny_pure ?_
  have I4 : Inv X pins σ H3 { s3 with heap := s3.heap.push { cls := .type "slice", data := .fields #[vl, vu, .none] } } := I3.kept (t' := s3.toks) fun b ob q => Heap.get?_push_of_some _ q
  obtain ⟨T, id, hT, ht, hg⟩ := hr pins { s3 with heap := s3.heap.push { cls := .type "slice", data := .fields #[vl, vu, .none] } } σ H3 x v vl vu l u s3.heap.objs.size Q I4 r1 (Heap.IsSliceOf.new ..) pl pu q3
  show wpAny (model X.prog X.w) X.A (subscriptTail e (.Slice lo hi none p2) v (.ref s3.heap.objs.size)) (EP X pins σ Q) X.xe { s3 with heap := s3.heap.push { cls := .type "slice", data := .fields #[vl, vu, .none] } }
  exact tail_any (ops := [.ref s3.heap.objs.size, v]) ht hT hg (by with_unfolding_all rfl)

def cutV (xs : List V) (lo hi : Option Int) : List V := (xs.drop (HT.sIx xs.length 0 lo)).take (HT.sIx xs.length xs.length hi - HT.sIx xs.length 0 lo)
theorem cutV_length (xs : List V) (lo hi : Option Int) : (cutV xs lo hi).length ≤ xs.length := by
  unfold cutV
  rw [List.length_take, List.length_drop]
  omega
def rSlT (K : PySem.W.Frag) : V → Option Int → Option Int → Hp → VK → Prop := fun x lo hi H Q => ∃ a xs, x = .ref a ∧ SqT K H a xs ∧
  ¬ (HT.sIx xs.length 0 lo = 0 ∧ HT.sIx xs.length xs.length hi = xs.length) ∧ ∀ p, H p = none → Q (.ref p) (upd H p (.tup (cutV xs lo hi)))
def rLtT (K : PySem.W.Frag) : R2 := fun x y H Q => ∃ a b ns ms, x = .ref a ∧ y = .ref b ∧ SqT K H a (ns.map V.int) ∧ SqT K H b (ms.map V.int) ∧ Q (.bl (HT.lexLt ns ms)) H
def rCatT (K : PySem.W.Frag) : R2 := fun x y H Q => ∃ a b xs ys, x = .ref a ∧ y = .ref b ∧ SqT K H a xs ∧ SqT K H b ys ∧ xs ≠ [] ∧ xs.length + ys.length ≤ sizeLine ∧
  (ys = [] → Q (.ref a) H) ∧ (ys ≠ [] → ∀ p, H p = none → Q (.ref p) (upd H p (.tup (xs ++ ys))))
end
end L2

namespace L2
open PySem PySem.Spec PyProof.Rows

def ixN (n : Nat) (i : Int) : Option Nat := if 0 ≤ i then (if i < n then some i.toNat else none) else if -(n : Int) ≤ i then some (i + n).toNat else none
def atI {α : Type} (xs : List α) (i : Int) : Option α := (ixN xs.length i).bind fun j => xs[j]?
theorem ixN_seq {n : Nat} {i : Int} {j : Nat} (h : ixN n i = some j) : seqIndex? i n = some j ∧ j < n ∧ -(n : Int) ≤ i ∧ i < n := by
  unfold ixN at h
  by_cases h0 : 0 ≤ i
  · rw [if_pos h0] at h
    by_cases h1 : i < n
    · rw [if_pos h1] at h
      have e : i.toNat = j := Option.some.inj h
      exact ⟨by rw [seqIndex_of h0 h1, e], by omega, by omega, h1⟩
    · rw [if_neg h1] at h; cases h
  · rw [if_neg h0] at h
    by_cases h1 : -(n : Int) ≤ i
    · rw [if_pos h1] at h
      have e : (i + n).toNat = j := Option.some.inj h
      exact ⟨by rw [seqIndex_neg (by omega) h1, e], by omega, h1, by omega⟩
    · rw [if_neg h1] at h; cases h
theorem atI_get {α : Type} {xs : List α} {i : Int} {v : α} (h : atI xs i = some v) : ∃ j, seqIndex? i xs.length = some j ∧ xs[j]? = some v ∧ j < xs.length ∧ -(xs.length : Int) ≤ i ∧ i < xs.length := by
  unfold atI at h
  cases e : ixN xs.length i with
  | none => rw [e] at h; cases h
  | some j =>
    rw [e] at h
    obtain ⟨h1, h2, h3, h4⟩ := ixN_seq e
    exact ⟨j, h1, h, h2, h3, h4⟩
theorem atI_nat {α : Type} {xs : List α} {j : Nat} {v : α} (h : xs[j]? = some v) : atI xs (j : Int) = some v := by
  have hj : j < xs.length := (List.getElem?_eq_some_iff.mp h).1
  have e : ixN xs.length (j : Int) = some j := by
    unfold ixN
    rw [if_pos (by omega), if_pos (by omega)]; simp
  unfold atI; rw [e]; exact h
def PlainIx (b : Expr) : Prop := ∀ o i, subscripted b false o i = operate [o, i] (getItem o i)
def IxR (X : Cx) (r : R2) : Prop :=
  ∀ (value slice : Expr) (pins : List (Addr × Obj)) (s : Shared) (σ : St) (H : Hp) (x y : V) (v u : Value) (Q : VK), Inv X pins σ H s → RelV x v → RelV y u → r x y H Q →
    subscripted slice false v u = operate [v, u] (getItem v u) → wpAny (model X.prog X.w) X.A (subscriptTail value slice v u) (EP X pins σ Q) X.xe s
def MtR (X : Cx) (id : String) (r : V → List V → Hp → VK → Prop) : Prop :=
  ∀ (pins : List (Addr × Obj)) (s : Shared) (σ : St) (H : Hp) (x : V) (xs : List V) (v : Value) (us : List Value) (Q : VK), Inv X pins σ H s → RelV x v → Vals xs us → r x xs H Q →
    wpAny (model X.prog X.w) X.A (call (.builtin id) (v :: us)) (EP X pins σ Q) X.xe s
section
variable {X : Cx} {a b : Expr} {ta tb : TE} {pos : Pos}
theorem IxR.or {r r' : R2} (h : IxR X r) (h' : IxR X r') : IxR X (fun x y H Q => r x y H Q ∨ r' x y H Q) := by
  intro value slice pins s σ H x y v u Q I rx ry q hs
  rcases q with q | q
  · exact h value slice pins s σ H x y v u Q I rx ry q hs
  · exact h' value slice pins s σ H x y v u Q I rx ry q hs
theorem pe_ix {r : R2} (hr : IxR X r) (ha : PE X a ta) (hb : PE X b tb) (hs : PlainIx b) : PE X (.Subscript a b pos) (tOp r ta tb) := by
  intro pins s σ H Q I h
  exact Subscript_ (binT ha hb I h fun v u s2 x y H2 I2 rx ry q => hr a b pins s2 σ H2 x y v u Q I2 rx ry q (hs _ _))

def rIxL (K : PySem.W.Frag) : R2 := fun x y H Q => ∃ p xs i v, x = .ref p ∧ y = .int i ∧ SqL K H p xs ∧ atI xs i = some v ∧ Q v H
def rIxT (K : PySem.W.Frag) : R2 := fun x y H Q => ∃ p xs i v, x = .ref p ∧ y = .int i ∧ SqT K H p xs ∧ atI xs i = some v ∧ Q v H
def rIxS : R2 := fun x y H Q => ∃ z i c, x = .str z ∧ y = .int i ∧ z.length ≤ sizeLine ∧ atI z.cps.toList i = some c ∧ Q (.str ⟨#[c]⟩) H
theorem ix_list : IxR X (rIxL X.K) := by
  intro value slice pins s σ H x y v u Q I rx ry h hs
  obtain ⟨p, xs, i, z, rfl, rfl, hq, he, q⟩ := h
  cases rx
  obtain ⟨t, rfl⟩ := ry
  obtain ⟨its, r, pl, hz⟩ := I.list hq
  obtain ⟨j, h1, h2, h3, h4, h5⟩ := atI_get he
  obtain ⟨w, ew, rw'⟩ := r.get h2
  have hl := r.length
  have hn := line63
  have fin : EP X pins σ Q w s := ⟨z, H, I, rw', q⟩
  by_cases h0 : 0 ≤ i
  · have hj : i.toNat = j := by
      rw [seqIndex_of h0 h5] at h1
      exact Option.some.inj h1
    exact item_listR pl.isList h0 (by omega) (by rw [hj]; simpa using ew) fin hs
  · have hj : (i + (its.toArray.size : Int)).toNat = j := by
      rw [seqIndex_neg (by omega) h4] at h1
      rw [List.size_toArray, ← hl]
      exact Option.some.inj h1
    exact subscriptTail_builtinR (x := w) pl.isList.typeIs slot_list_getitem.lookup
      (wpAny_getItem_list_neg (Q := fun r s' => r = w ∧ EP X pins σ Q r s') pl.isList (by omega) (by rw [List.size_toArray] <;> omega) (by omega) (by rw [hj]; simpa using ew) ⟨rfl, fin⟩) hs
theorem ix_tup : IxR X (rIxT X.K) := by
  intro value slice pins s σ H x y v u Q I rx ry h hs
  obtain ⟨p, xs, i, z, rfl, rfl, hq, he, q⟩ := h
  cases rx
  obtain ⟨t, rfl⟩ := ry
  obtain ⟨its, r, pl, hz⟩ := I.tuple hq
  obtain ⟨j, h1, h2, h3, h4, h5⟩ := atI_get he
  obtain ⟨w, ew, rw'⟩ := r.get h2
  have hl := r.length
  have hn := line63
  have fin : EP X pins σ Q w s := ⟨z, H, I, rw', q⟩
  exact subscriptTail_builtinR (x := w) pl.typeIs slot_tuple_getitem.lookup
    (getItem_tuple (j := j) (Q := fun r s' => r = w ∧ EP X pins σ Q r s') pl (by omega) (by omega) (by rw [List.size_toArray, ← hl]; exact h1) (by simpa using ew) ⟨rfl, fin⟩) hs
theorem ix_str : IxR X rIxS := by
  intro value slice pins s σ H x y v u Q I rx ry h hs
  obtain ⟨z, i, c, rfl, rfl, hz, he, q⟩ := h
  obtain ⟨t, rfl⟩ := rx
  obtain ⟨t', rfl⟩ := ry
  obtain ⟨j, h1, h2, h3, h4, h5⟩ := atI_get he
  have hl : z.cps.toList.length = z.length := by simp [Str.length]
  rw [hl] at h1 h4 h5
  have hn := line63
  exact tail_any (typeIs_str s z t) slot_str_getitem.lookup (getItem_str (c := c) (by
    have e1 : decide (i < -(2 ^ 63 : Int)) = false := decide_eq_false (by omega)
    have e2 : decide (i ≥ 2 ^ 63) = false := decide_eq_false (by omega)
    rw [e1, e2, Bool.or_false]) (by rw [h1]; simpa using h2) ⟨.str ⟨#[c]⟩, H, I.tok _, ⟨_, rfl⟩, q⟩) hs
def rIx (K : PySem.W.Frag) : R2 := fun x y H Q => rIxL K x y H Q ∨ rIxT K x y H Q ∨ rIxS x y H Q
theorem ix_seq : IxR X (rIx X.K) := ix_list.or (ix_tup.or ix_str)

theorem mapSeq_set (its : List Value) (n j : Nat) (u : Value) : Obj.mapSeq (·.setIfInBounds j u) { cls := .type "list", data := .seq its.toArray n } = { cls := .type "list", data := .seq (its.set j u).toArray n } := by
  simp [Obj.mapSeq]
theorem Inv.lst {pins : List (Addr × Obj)} {σ : St} {H : Hp} {s : Shared} {p : Addr} {xs : List V} (I : Inv X pins σ H s) (h : H p = some (.lst xs)) :
    ∃ (its : List Value) (n : Nat), Vals xs its ∧ s.heap.get? p = some { cls := .type "list", data := .seq its.toArray n } ∧ xs.length ≤ sizeLine := by
  obtain ⟨z, its, n, r, e⟩ := I.hok p _ h
  exact ⟨its, n, r, e, z⟩
theorem Inv.lstUpd {pins : List (Addr × Obj)} {σ : St} {H : Hp} {s : Shared} {p : Addr} {xs ys : List V} {its its' : List Value} {n n' : Nat} {f : Obj → Obj} (I : Inv X pins σ H s) (h : H p = some (.lst xs))
    (ho : s.heap.get? p = some { cls := .type "list", data := .seq its.toArray n }) (hf : f { cls := .type "list", data := .seq its.toArray n } = { cls := .type "list", data := .seq its'.toArray n' }) (r : Vals ys its') (hz : ys.length ≤ sizeLine) (t : Nat) :
    Inv X pins σ (upd H p (.lst ys)) { s with heap := s.heap.update p f, toks := t } := by
  have e : (s.heap.update p f).get? p = some { cls := .type "list", data := .seq its'.toArray n' } := by
    rw [Heap.get?_update_self f ho (by rw [hf] <;> rfl), hf]
  refine I.write (x := p) (e := p) (by rw [h]; trivial) (.inl rfl) (fun b u hb q => (Heap.get?_update_other _ _ (Ne.symm hb)).trans q) ⟨_, e⟩ ?_
  exact ⟨hz, its', n', r, e⟩
def rSetL : V → V → V → Hp → (Hp → Prop) → Prop := fun o i v H Q => ∃ p xs k j, o = .ref p ∧ i = .int k ∧ H p = some (.lst xs) ∧ ixN xs.length k = some j ∧ Q (upd H p (.lst (xs.set j v)))
theorem set_list : PSet X rSetL := by
  intro pins s σ H o i v ov iv u Q I ro ri rv h
  obtain ⟨p, xs, k, j, rfl, rfl, hp, hj, q⟩ := h
  cases ro
  obtain ⟨t, rfl⟩ := ri
  obtain ⟨its, n, r, ho, hz⟩ := I.lst hp
  obtain ⟨h1, h2, h3, h4⟩ := ixN_seq hj
  have hl := r.length
  have hn := line63
  have I' : Inv X pins σ (upd H p (.lst (xs.set j v))) { s with heap := s.heap.update p (Obj.mapSeq (·.setIfInBounds j u)) } :=
    I.lstUpd hp ho (mapSeq_set its n j u) (r.set rv j) (by rw [List.length_set]; exact hz) s.toks
  by_cases h0 : 0 ≤ k
  · have hk : k.toNat = j := by
      rw [seqIndex_of h0 h4] at h1
      exact Option.some.inj h1
    exact PySem.W.ki_setAt ho h0 (by omega) (by rw [List.size_toArray, ← hl]; exact h4) (by rw [hk]; exact ⟨_, I', q⟩)
  · have hk : (k + (its.toArray.size : Int)).toNat = j := by
      rw [seqIndex_neg (by omega) h3] at h1
      rw [List.size_toArray, ← hl]
      exact Option.some.inj h1
    exact PySem.W.ki_setBack ho (by omega) (by rw [List.size_toArray, ← hl]; exact h3) (by omega) (by rw [hk]; exact ⟨_, I', q⟩)

theorem slice_bounds (lo hi : Option Int) (n : Nat) : (sliceBounds lo hi none n).1 = ((HT.sIx n 0 lo : Nat) : Int) ∧ (sliceBounds lo hi none n).2.1 = ((HT.sIx n n hi : Nat) : Int) ∧ (sliceBounds lo hi none n).2.2 = 1 := by
  refine ⟨?_, ?_, rfl⟩
  · cases lo with
    | none => simp [sliceBounds, HT.sIx]
    | some i =>
      simp only [sliceBounds, HT.sIx, Option.getD_none, show (1 : Int) > 0 by decide, if_true]
      by_cases h : i < 0
      · simp only [h, if_true] <;> omega
      · simp only [h, if_false] <;> omega
  · cases hi with
    | none => simp [sliceBounds, HT.sIx]
    | some i =>
      simp only [sliceBounds, HT.sIx, Option.getD_none, show (1 : Int) > 0 by decide, if_true]
      by_cases h : i < 0
      · simp only [h, if_true] <;> omega
      · simp only [h, if_false] <;> omega
theorem slicePick_cut (its : List Value) (lo hi : Option Int) : slicePick its.toArray lo hi none = ((its.drop (HT.sIx its.length 0 lo)).take (HT.sIx its.length its.length hi - HT.sIx its.length 0 lo)).toArray := by
  obtain ⟨h1, h2, h3⟩ := slice_bounds lo hi its.toArray.size
  unfold slicePick
  rw [h1, h2, h3]
  simp only [sliceRange_one, pick_run, List.size_toArray] <;> rfl
def rSlL (K : PySem.W.Frag) : V → Option Int → Option Int → Hp → VK → Prop := fun x lo hi H Q => ∃ a xs, x = .ref a ∧ SqL K H a xs ∧ ∀ p, H p = none → Q (.ref p) (upd H p (.lst (cutV xs lo hi)))
theorem sl_list : SlR X (rSlL X.K) := by
  intro pins s σ H x v vl vu lo hi sl Q I rx hs pl pu h
  obtain ⟨a, xs, rfl, hx, q⟩ := h
  cases rx
  obtain ⟨its, r, ht, hz⟩ := I.list hx
  have hlen := r.length
  refine ⟨"list", _, slot_list_getitem.lookup, ht.isList.typeIs, ?_⟩
  refine wpAny_getItem_list_slice ht.isList hs pl pu .none (by simp) ?_ (by rw [List.size_toArray] <;> omega)
  rw [slicePick_cut, ← hlen]
  refine ⟨.ref s.heap.objs.size, _, I.laid (t' := s.toks) (o := .lst (cutV xs lo hi)) (fun b ob q => Heap.get?_push_of_some _ q) (Nat.le_refl _) ?_, rfl, q _ (I.hok.fresh (Nat.le_refl _))⟩
  exact ⟨Nat.le_trans (cutV_length xs lo hi) hz, _, 0, (r.drop (HT.sIx xs.length 0 lo)).take (HT.sIx xs.length xs.length hi - HT.sIx xs.length 0 lo), Heap.get?_push_size _ rfl⟩

def flatV : V → Bool
  | .non => true
  | .bl _ => true
  | .int _ => true
  | .str _ => true
  | _ => false
def eqV : V → V → Bool
  | .non, .non => true
  | .bl a, .bl b => a == b
  | .bl a, .int b => (if a then 1 else 0) == b
  | .int a, .bl b => a == (if b then 1 else 0)
  | .int a, .int b => a == b
  | .str a, .str b => a == b
  | _, _ => false
theorem eqAt_V {A : Around} {s : Shared} {y x : V} {u v : Value} (ry : RelV y u) (rx : RelV x v) (fy : flatV y = true) (fx : flatV x = true) : SeqAt.EqAt A s u v (eqV y x) := by
  cases y with
  | non =>
    cases ry
    cases x with
    | non => cases rx; exact SeqAt.EqAt.same _
    | bl b => cases rx; exact SeqAt.EqAt.none_bool b
    | int b => obtain ⟨t, rfl⟩ := rx; exact SeqAt.EqAt.none_int b t
    | str b => obtain ⟨t, rfl⟩ := rx; exact SeqAt.EqAt.none_str b t
    | _ => exact absurd (show false = true from fx) Bool.false_ne_true
  | bl a =>
    cases ry
    cases x with
    | non => cases rx; exact SeqAt.EqAt.bool_none a
    | bl b => cases rx; exact SeqAt.EqAt.bool_bool a b
    | int b => obtain ⟨t, rfl⟩ := rx; exact SeqAt.EqAt.bool_int a b t
    | str b => obtain ⟨t, rfl⟩ := rx; exact SeqAt.EqAt.bool_str a b t
    | _ => exact absurd (show false = true from fx) Bool.false_ne_true
  | int a =>
    obtain ⟨t', rfl⟩ := ry
    cases x with
    | non => cases rx; exact SeqAt.EqAt.int_none a t'
    | bl b => cases rx; exact SeqAt.EqAt.int_bool a t' b
    | int b => obtain ⟨t, rfl⟩ := rx; exact SeqAt.EqAt.int_int a t' b t
    | str b => obtain ⟨t, rfl⟩ := rx; exact SeqAt.EqAt.int_str a t' b t
    | _ => exact absurd (show false = true from fx) Bool.false_ne_true
  | str a =>
    obtain ⟨t', rfl⟩ := ry
    cases x with
    | non => cases rx; exact SeqAt.EqAt.str_none a t'
    | bl b => cases rx; exact SeqAt.EqAt.str_bool a t' b
    | int b => obtain ⟨t, rfl⟩ := rx; exact SeqAt.EqAt.str_int a t' b t
    | str b => obtain ⟨t, rfl⟩ := rx; exact SeqAt.EqAt.str_str a t' b t
    | _ => exact absurd (show false = true from fx) Bool.false_ne_true
  | _ => exact absurd (show false = true from fy) Bool.false_ne_true
def eqU (x : V) (u : Value) : Bool := match u with
  | .none => eqV .non x
  | .bool b => eqV (.bl b) x
  | .int i _ => eqV (.int i) x
  | .str z _ => eqV (.str z) x
  | _ => false
theorem eqU_of {x y : V} {u : Value} (r : RelV y u) (f : flatV y = true) : eqU x u = eqV y x := by
  cases y with
  | non => cases r; rfl
  | bl b => cases r; rfl
  | int i => obtain ⟨t, rfl⟩ := r; rfl
  | str z => obtain ⟨t, rfl⟩ := r; rfl
  | _ => exact absurd (show false = true from f) Bool.false_ne_true
theorem any_eqU {x : V} : ∀ {xs : List V} {us : List Value}, Vals xs us → xs.all flatV = true → us.any (eqU x) = xs.any fun y => eqV y x
  | _, _, .nil, _ => rfl
  | y :: xs, u :: us, .cons r t, f => by
    rw [List.all_cons, Bool.and_eq_true] at f
    rw [List.any_cons, List.any_cons, eqU_of r f.1, any_eqU t f.2]
theorem mem_eqAt {A : Around} {s : Shared} {x : V} {v : Value} (rx : RelV x v) (fx : flatV x = true) : ∀ {xs : List V} {us : List Value}, Vals xs us → xs.all flatV = true → ∀ u ∈ us, SeqAt.EqAt A s u v (eqU x u)
  | _, _, .nil, _ => fun u hu => by cases hu
  | y :: xs, u :: us, .cons r t, f => fun u' hu => by
    rw [List.all_cons, Bool.and_eq_true] at f
    rcases List.mem_cons.mp hu with rfl | hu
    · rw [eqU_of r f.1]; exact eqAt_V r rx f.1 fx
    · exact mem_eqAt rx fx t f.2 u' hu
def inV (x : V) (xs : List V) : Bool := xs.any fun y => eqV y x
def rIn (K : PySem.W.Frag) (neg : Bool) : R2 := fun x y H Q => ∃ p xs, y = .ref p ∧ (SqL K H p xs ∨ SqT K H p xs) ∧ flatV x = true ∧ xs.all flatV = true ∧ Q (.bl (if neg then !inV x xs else inV x xs)) H
theorem op_in_seq : OpR X (compareOp .In) (rIn X.K false) := by
  intro pins s σ H x y v u Q I rx ry h
  obtain ⟨p, xs, rfl, hq, fx, fs, q⟩ := h
  cases ry
  rcases hq with hq | hq
  · obtain ⟨its, r, pl, hz⟩ := I.list hq
    refine SeqAt.in_listAt (eqU x) pl.isList (fun w hw => mem_eqAt rx fx r fs w (by simpa using hw)) ⟨.bl _, H, I, rfl, ?_⟩
    rw [show its.toArray.any (eqU x) = its.any (eqU x) by simp, any_eqU r fs]
    exact q
  · obtain ⟨its, r, pl, hz⟩ := I.tuple hq
    refine SeqAt.in_tupleAt (eqU x) pl (fun w hw => mem_eqAt rx fx r fs w (by simpa using hw)) ⟨.bl _, H, I, rfl, ?_⟩
    rw [show its.toArray.any (eqU x) = its.any (eqU x) by simp, any_eqU r fs]
    exact q
theorem call_len_seq : CallR X (.builtin "len") (fun xs H Q => ∃ p ys, xs = [.ref p] ∧ (SqL X.K H p ys ∨ SqT X.K H p ys) ∧ Q (.int ys.length) H) := by
  intro pins s σ H xs us Q I r h
  obtain ⟨p, ys, rfl, hq, q⟩ := h
  obtain ⟨u, rfl, rx⟩ := vals1 r
  cases rx
  have hn := line63
  rcases hq with hq | hq
  · obtain ⟨its, r', pl, hz⟩ := I.list hq
    have hlen := r'.length
    exact Calls.call_len_list pl.isList (by simp only [List.size_toArray] <;> omega) ⟨.int ys.length, H, I.tok _, ⟨s.toks + 1, by rw [List.size_toArray, hlen]⟩, q⟩
  · obtain ⟨its, r', pl, hz⟩ := I.tuple hq
    have hlen := r'.length
    exact len_tuple pl (by simp only [List.size_toArray] <;> omega) ⟨.int ys.length, H, I.tok _, ⟨s.toks + 1, by rw [List.size_toArray, hlen]⟩, q⟩
theorem call_len_str : CallR X (.builtin "len") (fun xs H Q => ∃ z, xs = [.str z] ∧ z.length ≤ sizeLine ∧ Q (.int z.length) H) := by
  intro pins s σ H xs us Q I r h
  obtain ⟨z, rfl, hz, q⟩ := h
  obtain ⟨u, rfl, t, rfl⟩ := vals1 r
  have hn := line63
  exact len_str (by omega) ⟨.int z.length, H, I.tok _, ⟨_, rfl⟩, q⟩
theorem call_list_of : CallR X (.type "list") (fun xs H Q => ∃ p ys, xs = [.ref p] ∧ (SqL X.K H p ys ∨ SqT X.K H p ys) ∧ ∀ l, H l = none → Q (.ref l) (upd H l (.lst ys))) := by
  intro pins s σ H xs us Q I r h
  obtain ⟨p, ys, rfl, hq, q⟩ := h
  obtain ⟨u, rfl, rx⟩ := vals1 r
  cases rx
  have fin : ∀ (its : List Value), Vals ys its → ys.length ≤ sizeLine → ∀ (h' : Heap) (c' : Nat), (∀ b o', s.heap.get? b = some o' → h'.get? b = some o') →
      h'.get? s.heap.objs.size = some { cls := .type "list", dict := none, data := .seq its.toArray c', slots := #[] } → EP X pins σ Q (.ref s.heap.objs.size) { s with heap := h' } := fun its r' hz h' c' kp e =>
    ⟨.ref s.heap.objs.size, _, I.laid (t' := s.toks) kp (Nat.le_refl _) (show ObjOk X.prog X.w _ h' _ (.lst ys) from ⟨hz, its, c', r', e⟩), rfl, q _ (I.hok.fresh (Nat.le_refl _))⟩
  rcases hq with hq | hq
  · obtain ⟨its, r', pl, hz⟩ := I.list hq
    have hlen := r'.length
    obtain ⟨o, ho, hc, n, hd⟩ := pl.isList
    exact call_list_seq p (.inl rfl) ho hc hd (fun h' c' kp e => fin its r' hz h' c' kp e) (by simp only [List.size_toArray] <;> omega)
  · obtain ⟨its, r', pl, hz⟩ := I.tuple hq
    have hlen := r'.length
    obtain ⟨o, ho, hc, n, hd⟩ := pl
    exact call_list_seq p (.inr rfl) ho hc hd (fun h' c' kp e => fin its r' hz h' c' kp e) (by simp only [List.size_toArray] <;> omega)
def tyV (K : PySem.W.Frag) (T : String) (x : V) (H : Hp) : Prop := match x with
  | .str _ => T = "str"
  | .int _ => T = "int"
  | .ref p => (T = "list" ∧ ∃ xs, SqL K H p xs) ∨ (T = "tuple" ∧ ∃ o, K.lookup p = some o ∧ o.cls = .type "tuple" ∧ o.dict = none) ∨
      (T = "dict" ∧ ((∃ kvs, H p = some (.dK kvs)) ∨ ∃ kvs, H p = some (.dT kvs))) ∨ (T = "set" ∧ ∃ S n, H p = some (.set S n))
  | _ => False
theorem tyV_is {pins : List (Addr × Obj)} {σ : St} {H : Hp} {s : Shared} {T : String} {x : V} {v : Value} (I : Inv X pins σ H s) (r : RelV x v) (ty : tyV X.K T x H) :
    s.TypeIs v T ∧ ∀ a, v = .ref a → ∃ ob, s.heap.get? a = some ob ∧ ob.dict = none := by
  cases x with
  | str z =>
    obtain ⟨t, rfl⟩ := r
    cases (show T = "str" from ty)
    exact ⟨typeIs_str s z t, fun _ e => nomatch e⟩
  | int i =>
    obtain ⟨t, rfl⟩ := r
    cases (show T = "int" from ty)
    exact ⟨typeIs_int s i t, fun _ e => nomatch e⟩
  | ref p =>
    cases r
    rcases ty with ⟨rfl, xs, hq⟩ | ⟨rfl, o, hk, hc, hd⟩ | ⟨rfl, hk⟩ | ⟨rfl, S, n, hk⟩
    · obtain ⟨its, _, pl, _⟩ := I.list hq
      refine ⟨pl.isList.typeIs, fun a e => ?_⟩
      cases e
      obtain ⟨o, n, e, c, hd, _⟩ := pl
      exact ⟨o, e, hd⟩
    · refine ⟨⟨o, I.kIn p o hk, hc⟩, fun a e => ?_⟩
      cases e
      exact ⟨o, I.kIn _ o hk, hd⟩
    · have z : ∃ o, s.heap.get? p = some o ∧ o.ExactDict := by
        rcases hk with ⟨kvs, hk⟩ | ⟨kvs, hk⟩
        · obtain ⟨_, _, _, _, o, _, _, e, ex, _⟩ := I.hok p _ hk
          exact ⟨o, e, ex⟩
        · obtain ⟨_, _, _, _, o, _, _, e, ex, _⟩ := I.hok p _ hk
          exact ⟨o, e, ex⟩
      obtain ⟨o, e, ex⟩ := z
      refine ⟨⟨o, e, ex.1⟩, fun a e2 => ?_⟩
      cases e2
      exact ⟨o, e, ex.2.1⟩
    · obtain ⟨o, _, _, _, e, ex, _⟩ := I.hok p _ hk
      refine ⟨⟨o, e, ex.1⟩, fun a e2 => ?_⟩
      cases e2
      exact ⟨o, e, ex.2.1⟩
  | _ => exact False.elim ty
def tBM0 (K : PySem.W.Frag) (T : String) (r : V → List V → Hp → VK → Prop) (to : TE) : TE := fun σ H Q => to σ H fun x H1 => tyV K T x H1 ∧ r x [] H1 Q
def tBM (K : PySem.W.Frag) (T : String) (r : V → List V → Hp → VK → Prop) (to : TE) (t : TA) : TE := fun σ H Q => to σ H fun x H1 => tyV K T x H1 ∧ t σ H1 fun xs H2 => r x xs H2 Q
variable {o e : Expr} {es : List Expr} {to : TE} {t : TA} {name : Str} {apos cpos : Pos} {T id : String} {r : V → List V → Hp → VK → Prop}
theorem pe_bm (pa : PlainAttrs T) (slot : Slot T name id) (hty : typeOf (.builtin id) = pure (.type "method_descriptor")) (hm : MtR X id r) (ho : PE X o to) (ha : PA X (e :: es) t)
    (hbase : attributeBase o name X.env (eval o X.env) = eval o X.env := by rfl)
    (hfew : ((backTo cpos (starEach (e :: es) X.env)).all (fun x => !x.1) && (backToKw cpos (keywordEach [] X.env)).all (fun x => x.1.isSome)
      && decide ((e :: es).length + ([] : List Keyword).length + (if ([] : List Keyword).isEmpty then 0 else 1) < 30)) = true := by rfl)
    (hline : (apos.endLine == cpos.line) = true := by rfl) (hs : starEach (e :: es) X.env = (false, eval e X.env) :: starEach es X.env := by rfl) (hplain : (backTo cpos (starEach es X.env)).any (·.1) = false := by rfl) :
    PE X (.Call (.Attribute o name apos) (e :: es) [] cpos) (tBM X.K T r to t) := by
  intro pins s σ H Q I h
  refine wpAny_Call_method_late hbase hfew hline rfl (thn (ho pins s σ H _ I h) fun v s1 ⟨x, H1, I1, r1, ty, q1⟩ => ?_)
  obtain ⟨h1, h2⟩ := tyV_is I1 r1 ty
  refine ⟨T, id, pa, slot, hty, h1, h2, ?_⟩
  have hA := ha cpos pins s1 σ H1 _ I1 q1
  rw [hs] at hA ⊢
  refine Calls.callWith_builtin (by show (false || (backTo cpos (starEach es X.env)).any (·.1)) = false; rw [hplain] <;> rfl) (Calls.evalArgs_plain ?_)
  exact thn hA fun us s2 ⟨vs, H2, I2, r2, q2⟩ => hm pins s2 σ H2 x vs v us Q I2 r1 r2 q2
/- xs.append(e), list.index on a module's tuple .. are MtR facts of 06m -/
end
end L2

namespace L2
open PySem PySem.Spec PyProof.Rows

def MtM (X : Cx) (id : String) (r : V → List V → Hp → VK → Prop) : Prop :=
  ∀ (pins : List (Addr × Obj)) (s : Shared) (σ : St) (H : Hp) (x : V) (xs : List V) (v : Value) (us : List Value) (Q : VK), Inv X pins σ H s → RelV x v → Vals xs us → r x xs H Q →
    wpAny (model X.prog X.w) X.A (call (.builtin id) (v :: us)) (EP X pins σ Q) X.xe s

theorem Vals.one : ∀ {x : V} {us : List Value}, Vals [x] us → ∃ u, us = [u] ∧ RelV x u
  | _, _, .cons r .nil => ⟨_, rfl, r⟩
section
variable {X : Cx} {pins : List (Addr × Obj)} {σ : St} {H : Hp} {s : Shared} {l b : Addr} {xs ys zs : List V}

theorem Inv.lset {its its' : List Value} {n : Nat} {f : Array Value → Array Value} {t' : Nat} (I : Inv X pins σ H s) (hH : H l = some (.lst xs))
    (e : s.heap.get? l = some { cls := .type "list", data := .seq its.toArray n }) (hf : f its.toArray = its'.toArray) (hv : Vals ys its') (hz : ys.length ≤ sizeLine) :
    Inv X pins σ (upd H l (.lst ys)) { s with heap := s.heap.update l (Obj.mapSeq f), toks := t' } := by
  have q := PySem.IsL.update e f
  rw [hf] at q
  refine I.write (x := l) (e := l) (by rw [hH]; exact trivial) (.inl rfl) (fun b' u hb hu => (Heap.get?_update_other s.heap (Obj.mapSeq f) (Ne.symm hb)).trans hu) ⟨_, q⟩ ?_
  exact ⟨hz, its', _, hv, q⟩
theorem Inv.lstM (I : Inv X pins σ H s) (hH : H l = some (.lst xs)) : xs.length ≤ sizeLine ∧ ∃ (its : List Value) (n : Nat), Vals xs its ∧ xs.length = its.length ∧ s.heap.get? l = some { cls := .type "list", data := .seq its.toArray n } := by
  obtain ⟨z, its, n, r, e⟩ := I.hok l _ hH
  exact ⟨z, its, n, r, r.length, e⟩

end

section
variable {X : Cx}

def rAppend : V → List V → Hp → VK → Prop := fun x vs H Q => ∃ l xs y, x = .ref l ∧ vs = [y] ∧ H l = some (.lst xs) ∧ xs.length < sizeLine ∧ Q .non (upd H l (.lst (xs ++ [y])))
theorem mt_append : MtM X "list.append" rAppend := by
  intro pins s σ H x vs v us Q I rx rv h
  obtain ⟨l, xs, y, rfl, rfl, hH, hz, q⟩ := h
  cases rx
  obtain ⟨u, rfl, ru⟩ := rv.one
  obtain ⟨z, its, n, r, hl, e⟩ := I.lstM hH
  refine call_meets F.slot_list_append ⟨_, e, rfl⟩ F.entry_list_append (F.args_list_append_2 _ _) (PySem.list_append l its.toArray n u (by rw [List.size_toArray]; omega)) ⟨e, ?_⟩
  refine ⟨.non, _, I.lset (its' := its ++ [u]) hH e (by simp) (r.append (.cons ru .nil)) ?_, rfl, q⟩
  rw [List.length_append, List.length_singleton]
  omega

def rExtend : V → List V → Hp → VK → Prop := fun x vs H Q => ∃ l b xs zs, x = .ref l ∧ vs = [.ref b] ∧ H l = some (.lst xs) ∧ H b = some (.lst zs) ∧ xs.length + zs.length ≤ sizeLine ∧ Q .non (upd H l (.lst (xs ++ zs)))
def rPop : V → List V → Hp → VK → Prop := fun x vs H Q => ∃ l xs y, x = .ref l ∧ vs = [] ∧ H l = some (.lst xs) ∧ xs[xs.length - 1]? = some y ∧ Q y (upd H l (.lst xs.dropLast))
def rPopAt : V → List V → Hp → VK → Prop := fun x vs H Q => ∃ l xs i k y, x = .ref l ∧ vs = [.int i] ∧ H l = some (.lst xs) ∧ -(2 ^ 63) ≤ i ∧ i < 2 ^ 63 ∧ seqIndex? i xs.length = some k ∧ xs[k]? = some y ∧ Q y (upd H l (.lst (xs.eraseIdx k)))
def rReverse : V → List V → Hp → VK → Prop := fun x vs H Q => ∃ l xs, x = .ref l ∧ vs = [] ∧ H l = some (.lst xs) ∧ Q .non (upd H l (.lst xs.reverse))
def rClear : V → List V → Hp → VK → Prop := fun x vs H Q => ∃ l xs, x = .ref l ∧ vs = [] ∧ H l = some (.lst xs) ∧ Q .non (upd H l (.lst []))
def rCat : R2 := fun x y H Q => ∃ l b xs zs, x = .ref l ∧ y = .ref b ∧ H l = some (.lst xs) ∧ H b = some (.lst zs) ∧ xs.length + zs.length ≤ sizeLine ∧ ∀ p, H p = none → Q (.ref p) (upd H p (.lst (xs ++ zs)))
def rRep : R2 := fun x y H Q => ∃ l k xs, x = .ref l ∧ y = .int k ∧ H l = some (.lst xs) ∧ -(2 ^ 63) ≤ k ∧ k < 2 ^ 63 ∧ xs.length * k.toNat ≤ sizeLine ∧
  ∀ p, H p = none → Q (.ref p) (upd H p (.lst (List.replicate k.toNat xs).flatten))
end

section
variable {prog : Program} {w : World} {A : Around} {E : Value → Shared → Prop} {s : Shared}
set_option maxRecDepth 100000 in
end

section
variable {X : Cx}
end
end L2

namespace L2
open PySem PySem.Spec PyProof.Rows

section
variable {κ : Type} [DecidableEq κ]
def valV (kvs : List (κ × V)) (k : κ) : Option V := (kvs.find? fun kv => decide (kv.1 = k)).map (·.2)
def putK (kvs : List (κ × V)) (k : κ) (v : V) : List (κ × V) :=
  if (kvs.any fun kv => decide (kv.1 = k)) = true then kvs.map (fun kv => if kv.1 = k then (kv.1, v) else kv) else kvs ++ [(k, v)]
def dropK (kvs : List (κ × V)) (k : κ) : List (κ × V) := kvs.filter fun kv => decide (kv.1 ≠ k)

theorem valV_pos {p : κ × V} {r : List (κ × V)} {k : κ} (e : p.1 = k) : valV (p :: r) k = some p.2 := by simp [valV, List.find?_cons, e]
theorem valV_neg {p : κ × V} {r : List (κ × V)} {k : κ} (e : ¬ p.1 = k) : valV (p :: r) k = valV r k := by simp [valV, List.find?_cons, e]
theorem valV_any (k : κ) : ∀ kvs : List (κ × V), (kvs.any fun kv => decide (kv.1 = k)) = (valV kvs k).isSome
  | [] => rfl
  | p :: r => by
    rw [List.any_cons]
    by_cases e : p.1 = k
    · simp only [valV_pos e, decide_eq_true e, Bool.true_or, Option.isSome_some]
    · rw [valV_neg e, decide_eq_false e, Bool.false_or]; exact valV_any k r
theorem length_putK (kvs : List (κ × V)) (k : κ) (v : V) : (putK kvs k v).length ≤ kvs.length + 1 := by
  unfold putK
  split
  · rw [List.length_map]; omega
  · rw [List.length_append, List.length_cons, List.length_nil]; omega
theorem RelO.isSome_eq {o : Option V} {u : Option Value} (r : RelO o u) : o.isSome = u.isSome := by
  cases o with
  | none => cases u with
    | none => rfl
    | some _ => exact (show False from r).elim
  | some _ => cases u with
    | none => exact (show False from r).elim
    | some _ => rfl
theorem KV.val {kvs : List (κ × V)} {vs : List (κ × Value)} (r : KV kvs vs) (k : κ) : RelO (valV kvs k) (valueAt vs k) := by
  unfold KV at r
  induction r with
  | nil => exact True.intro
  | @cons p q ps qs h t ih =>
    obtain ⟨h1, h2⟩ := h
    by_cases e : p.1 = k
    · have e' : q.1 = k := h1.symm.trans e
      have b : valueAt (q :: qs) k = some q.2 := by simp [valueAt, List.find?_cons, e']
      rw [valV_pos e, b]; exact h2
    · have e' : ¬ q.1 = k := fun z => e (h1.trans z)
      have b : valueAt (q :: qs) k = valueAt qs k := by simp [valueAt, List.find?_cons, e']
      rw [valV_neg e, b]; exact ih
theorem KV.any {kvs : List (κ × V)} {vs : List (κ × Value)} (r : KV kvs vs) (k : κ) : (kvs.any fun kv => decide (kv.1 = k)) = vs.any fun kv => decide (kv.1 = k) := by
  unfold KV at r
  induction r with
  | nil => rfl
  | cons h t ih => rw [List.any_cons, List.any_cons, ih, h.1]
theorem KV.repl {kvs : List (κ × V)} {vs : List (κ × Value)} (r : KV kvs vs) (k : κ) {y : V} {u : Value} (ry : RelV y u) :
    KV (kvs.map fun kv => if kv.1 = k then (kv.1, y) else kv) (vs.map fun kv => if kv.1 = k then (kv.1, u) else kv) := by
  unfold KV at r ⊢
  induction r with
  | nil => exact .nil
  | @cons p q ps qs h t ih =>
    rw [List.map_cons, List.map_cons]
    refine .cons ?_ ih
    obtain ⟨h1, h2⟩ := h
    by_cases e : p.1 = k
    · rw [if_pos e, if_pos (h1.symm.trans e)]; exact ⟨h1, ry⟩
    · rw [if_neg e, if_neg (fun z => e (h1.trans z))]; exact ⟨h1, h2⟩
theorem KV.put {kvs : List (κ × V)} {vs : List (κ × Value)} (r : KV kvs vs) (k : κ) {y : V} {u : Value} (ry : RelV y u) : KV (putK kvs k y) (stored vs k u) := by
  unfold putK stored
  rw [r.any k]
  by_cases e : (vs.any fun kv => decide (kv.1 = k)) = true
  · rw [if_pos e, if_pos e]; exact r.repl k ry
  · rw [if_neg e, if_neg e]; exact Paired.snoc r ⟨rfl, ry⟩
theorem KV.length {kvs : List (κ × V)} {vs : List (κ × Value)} (r : KV kvs vs) : kvs.length = vs.length := Paired.length r
end


theorem kV_is {P : Program} {w : World} {k : Key} {u : Value} (r : RelV (kV k) u) : (mixKind P w).is k u = true := by
  cases k with
  | inl i => obtain ⟨t, e⟩ := (show ∃ t, u = Value.int i t from r); subst e; exact mixKind_int P w i t
  | inr x => obtain ⟨t, e⟩ := (show ∃ t, u = Value.str x t from r); subst e; exact mixKind_str P w x t
theorem items_are {P : Program} {w : World} : ∀ {ks : List Key} {us : List Value}, Vals (ks.map kV) us → ItemsAre (mixKind P w) ks us
  | [], _, r => by rw [List.map_nil] at r; cases r; exact .nil
  | k :: ks, _, r => by
    rw [List.map_cons] at r
    cases r with
    | cons h t => exact .cons (kV_is h) (items_are t)

abbrev KT (H : Hp) : List (List Key × V) → List (List Key × Addr × Value) → Prop := Paired fun p q => p.1 = q.1 ∧ H q.2.1 = some (.tup (p.1.map kV)) ∧ RelV p.2 q.2.2
theorem KT.val {H : Hp} {kvs : List (List Key × V)} {xs : List (List Key × Addr × Value)} (r : KT H kvs xs) (k : List Key) : RelO (valV kvs k) ((atKey xs k).map (·.2)) := by
  induction r with
  | nil => exact True.intro
  | @cons p q ps qs h t ih =>
    obtain ⟨h1, _, h2⟩ := h
    by_cases e : p.1 = k
    · have e' : q.1 = k := h1.symm.trans e
      have b : atKey (q :: qs) k = some q.2 := by simp [atKey, List.find?_cons, e']
      rw [valV_pos e, b]; exact h2
    · have e' : ¬ q.1 = k := fun z => e (h1.trans z)
      have b : atKey (q :: qs) k = atKey qs k := by simp [atKey, List.find?_cons, e']
      rw [valV_neg e, b]; exact ih
theorem KT.repl {H : Hp} {kvs : List (List Key × V)} {xs : List (List Key × Addr × Value)} (r : KT H kvs xs) (k : List Key) {y : V} {u : Value} (ry : RelV y u) :
    KT H (kvs.map fun kv => if kv.1 = k then (kv.1, y) else kv) (xs.map (putAt k u)) := by
  induction r with
  | nil => exact .nil
  | @cons p q ps qs h t ih =>
    rw [List.map_cons, List.map_cons]
    refine .cons ?_ ih
    obtain ⟨h1, h2, h3⟩ := h
    unfold putAt
    by_cases e : p.1 = k
    · rw [if_pos e, if_pos (h1.symm.trans e)]; exact ⟨h1, h2, ry⟩
    · rw [if_neg e, if_neg (fun z => e (h1.trans z))]; exact ⟨h1, h2, h3⟩
theorem KT.put {H : Hp} {kvs : List (List Key × V)} {xs : List (List Key × Addr × Value)} (r : KT H kvs xs) (k : List Key) {b : Addr} {y : V} {u : Value} (hb : H b = some (.tup (k.map kV))) (ry : RelV y u) :
    KT H (putK kvs k y) (storedH xs k b u) := by
  have e : (kvs.any fun kv => decide (kv.1 = k)) = (atKey xs k).isSome := by
    rw [valV_any, (r.val k).isSome_eq, Option.isSome_map]
  unfold putK storedH
  rw [e]
  by_cases q : (atKey xs k).isSome = true
  · rw [if_pos q, if_pos q]; exact r.repl k ry
  · rw [if_neg q, if_neg q]; exact Paired.snoc r ⟨rfl, hb, ry⟩
theorem KT.keeps {H H' : Hp} {kvs : List (List Key × V)} {xs : List (List Key × Addr × Value)} (r : KT H kvs xs) (ht : ∀ b ys, H b = some (.tup ys) → H' b = some (.tup ys)) : KT H' kvs xs :=
  Paired.mapP r fun _ _ z => ⟨z.1, ht _ _ z.2.1, z.2.2⟩

section
variable {P : Program} {w : World} {H : Hp} {h : Heap} {a : Addr}
theorem rd_of {u : HO} (ok : HOk P w H h) (e : Rd H a u) : ObjOk P w H h a u := e.ok ok
theorem dk_rd {kvs : List (Key × V)} (ok : HOk P w H h) (e : Rd H a (.dK kvs)) : kvs.length ≤ sizeLine ∧ (a == sysModules) = false ∧ ∃ vs, KV kvs vs ∧ h.DictOf (mixKind P w) a vs :=
  show ObjOk P w H h a (.dK kvs) from rd_of ok e
theorem dk_of {kvs : List (Key × V)} (ok : HOk P w H h) (e : H a = some (.dK kvs)) : kvs.length ≤ sizeLine ∧ (a == sysModules) = false ∧ ∃ vs, KV kvs vs ∧ h.DictOf (mixKind P w) a vs := dk_rd ok (.inl e)
theorem key_of {ks : List Key} (ok : HOk P w H h) (e : H a = some (.tup (ks.map kV))) : (tupleKind (mixKind P w)).is h ks a := by
  obtain ⟨_, its, r, o, h1, h2, n, h3⟩ := (show ObjOk P w H h a (.tup (ks.map kV)) from ok a _ e)
  exact ⟨o, its.toArray, n, h1, h2, h3, by simpa using items_are r⟩
theorem dt_rd {kvs : List (List Key × V)} (ok : HOk P w H h) (e : Rd H a (.dT kvs)) : kvs.length ≤ sizeLine ∧ (a == sysModules) = false ∧
    ∃ xs, KT H kvs xs ∧ h.DictOfH (tupleKind (mixKind P w)) a xs := by
  obtain ⟨z, y, xs, r, o, es, ep, h1, h2, h3, h4, h5⟩ := (show ObjOk P w H h a (.dT kvs) from rd_of ok e)
  refine ⟨z, y, xs, r, o, es, ep, h1, h2, h3, h4, fun x hx => ?_, h5⟩
  have all : ∀ {l : List (List Key × V)} {m : List (List Key × Addr × Value)}, KT H l m → ∀ x ∈ m, (tupleKind (mixKind P w)).is h x.1 x.2.1 := by
    intro l m q
    induction q with
    | nil => intro x hx; exact nomatch hx
    | @cons p q ps qs hq t ih =>
      intro x hx
      rcases List.mem_cons.mp hx with e | hx
      · subst e
        exact key_of ok (by rw [← hq.1]; exact hq.2.1)
      · exact ih x hx
  exact all r x hx
theorem dt_of {kvs : List (List Key × V)} (ok : HOk P w H h) (e : H a = some (.dT kvs)) : kvs.length ≤ sizeLine ∧ (a == sysModules) = false ∧
    ∃ xs, KT H kvs xs ∧ h.DictOfH (tupleKind (mixKind P w)) a xs := dt_rd ok (.inl e)
end

def DGet (H : Hp) (a : Addr) (y : V) (r : Option V) : Prop :=
  (∃ kvs k, Rd H a (.dK kvs) ∧ y = kV k ∧ r = valV kvs k) ∨ ∃ kvs k b, Rd H a (.dT kvs) ∧ y = .ref b ∧ H b = some (.tup (k.map kV)) ∧ r = valV kvs k
def DPut (H : Hp) (a : Addr) (y v : V) (H' : Hp) : Prop :=
  (∃ kvs k, H a = some (.dK kvs) ∧ y = kV k ∧ kvs.length < sizeLine ∧ H' = upd H a (.dK (putK kvs k v))) ∨
  ∃ kvs k b, H a = some (.dT kvs) ∧ y = .ref b ∧ H b = some (.tup (k.map kV)) ∧ kvs.length < sizeLine ∧ H' = upd H a (.dT (putK kvs k v))
theorem DGet.k {H : Hp} {a : Addr} {kvs : List (Key × V)} {k : Key} (e : H a = some (.dK kvs)) : DGet H a (kV k) (valV kvs k) := .inl ⟨kvs, k, .inl e, rfl, rfl⟩
theorem DPut.k {H : Hp} {a : Addr} {kvs : List (Key × V)} {k : Key} {v : V} (e : H a = some (.dK kvs)) (hl : kvs.length < sizeLine) : DPut H a (kV k) v (upd H a (.dK (putK kvs k v))) := .inl ⟨kvs, k, e, rfl, hl, rfl⟩
section
variable {X : Cx} {pins : List (Addr × Obj)} {σ : St} {H : Hp} {s : Shared} {a : Addr} {y v : V} {u r : Value} {o : Option V} {A : Around} {E : Value → Shared → Prop}

theorem Inv.big (I : Inv X pins σ H s) : sysModules < s.heap.objs.size := by
  have h : mainGlobals < s.heap.objs.size := (I.mod.glob.keeps I.bk).lt
  exact Nat.lt_trans (by decide) h

theorem d_getItem {Q : Value → Shared → Prop} (hu : A.units + 1 < cLine) (I : Inv X pins σ H s) (g : DGet H a y (some v)) (ry : RelV y u) (h : ∀ w' s', Inv X pins σ H s' → RelV v w' → Q w' s') :
    wpAny (model X.prog X.w) A (getItem (.ref a) u) Q E s := by
  rcases g with ⟨kvs, k, e, ey, l⟩ | ⟨kvs, k, b, e, ey, eb, l⟩
  · subst ey
    obtain ⟨z, hd, vs, rel, dd⟩ := dk_rd I.hok e
    obtain ⟨w', hw, rw'⟩ := RelO.some_of (v := v) (o := valueAt vs k) (by rw [l]; exact rel.val k)
    exact wpAny_getItem_of (kV_is ry) dd.mapOf hw (h w' _ (I.tok _) rw')
  · subst ey
    cases (show u = Value.ref b from ry)
    obtain ⟨z, hd, xs, rel, dd⟩ := dt_rd I.hok e
    obtain ⟨w', hw, rw'⟩ := RelO.some_of (v := v) (o := (atKey xs k).map (·.2)) (by rw [l]; exact rel.val k)
    obtain ⟨p, hp, hp2⟩ := Option.map_eq_some_iff.mp hw
    refine wpAny_getItem_heap (tupleKind_room_in1 hu) (key_of I.hok eb) dd hp ?_
    rw [hp2]
    exact h w' _ (I.tok _) rw'
theorem d_write {h' : Heap} {t' : Nat} {ob : HO} (I : Inv X pins σ H s) (mu : Mut (H a)) (hs : Heap.SameBut a s.heap h') (he : ∃ q, h'.get? a = some q) (new : ObjOk X.prog X.w (upd H a ob) h' a ob) :
    Inv X pins σ (upd H a ob) { s with heap := h', toks := t' } :=
  I.write (x := a) (e := a) mu (.inl rfl) (fun b q hb z => (hs.2 b hb).trans z) he new
theorem dk_new {P : Program} {w : World} {H' : Hp} {h' : Heap} {kvs : List (Key × V)} {vs : List (Key × Value)} (z : kvs.length ≤ sizeLine) (hd : (a == sysModules) = false) (rel : KV kvs vs) (dd : h'.DictOf (mixKind P w) a vs) :
    ObjOk P w H' h' a (.dK kvs) := ⟨z, hd, vs, rel, dd⟩
theorem d_setItem {H' : Hp} {Q : Unit → Shared → Prop} (hu : A.units + 1 < cLine) (I : Inv X pins σ H s) (g : DPut H a y v H') (ry : RelV y u) (rv : RelV v r) (h : ∀ s', Inv X pins σ H' s' → Q () s') :
    wpAny (model X.prog X.w) A (setItem (.ref a) u r) Q E s := by
  rcases g with ⟨kvs, k, e, ey, l, eH⟩ | ⟨kvs, k, b, e, ey, eb, l, eH⟩
  · subst ey eH
    obtain ⟨z, hd, vs, rel, dd⟩ := dk_of I.hok e
    have hz : vs.length ≤ sizeLine := by rw [← rel.length]; exact z
    have hl : (putK kvs k v).length ≤ sizeLine := by have := length_putK kvs k v; omega
    refine wpAny_setItem_pairs (hsz := hz) (kV_is ry) dd fun h' dd' hs => h _ ?_
    have he : ∃ q, h'.get? a = some q := let ⟨q, _, _, hq, _⟩ := dd'; ⟨q, hq⟩
    exact d_write I (by rw [e]; exact True.intro) hs he (dk_new hl hd (rel.put k rv) dd')
  · subst ey eH
    cases (show u = Value.ref b from ry)
    obtain ⟨z, hd, xs, rel, dd⟩ := dt_of I.hok e
    have hz : xs.length ≤ sizeLine := by rw [← Paired.length rel]; exact z
    have hl : (putK kvs k v).length ≤ sizeLine := by have := length_putK kvs k v; omega
    refine wpAny_setItem_heap (hsz := hz) (tupleKind_room_in1 hu) (key_of I.hok eb) dd fun h' dd' hs => h _ ?_
    obtain ⟨q, es, ep, hq, h2, h3, h4, _, h5⟩ := dd'
    refine d_write I (by rw [e]; exact True.intro) hs ⟨q, hq⟩ ⟨hl, hd, _, (rel.put k eb rv).keeps fun c ys ec => ?_, q, es, ep, hq, h2, h3, h4, h5⟩
    rw [upd_ne (ne_of ec e (fun z => nomatch z))]
    exact ec
end

section
variable {X : Cx} {pins : List (Addr × Obj)} {σ : St} {H : Hp} {s : Shared} {a : Addr} {kvs : List (Key × V)} {k : Key} {u : Value} {A : Around} {E : Value → Shared → Prop}
end


def NoSl (i : Expr) : Prop := ∀ ov iv, subscripted i false ov iv = operate [ov, iv] (getItem ov iv)
theorem subD_of {prog : Program} {w : World} {A : Around} {E : Value → Shared → Prop} {s : Shared} {env : Env} {value slice : Expr} {pos : Pos} {T id : String} {Q : Value → Shared → Prop}
    (hl : typeLookup (.type T) "__getitem__" = pure (some (.builtin id))) (hs : NoSl slice)
    (h : wpAny (model prog w) A (eval value env) (fun o s₁ => wpAny (model prog w) A (eval slice env) (fun i s₂ => s₂.TypeIs o T ∧ wpAny (model prog w) A (getItem o i) Q E s₂) E s₁) E s) :
    wpAny (model prog w) A (eval (.Subscript value slice pos) env) Q E s := by
  refine Subscript_ (wpAny_mono h (fun o s₁ h₁ => wpAny_mono h₁ (fun i s₂ h₂ => ?_) fun _ _ x => x) fun _ _ x => x)
  obtain ⟨hT, h₂⟩ := h₂
  unfold subscriptTail
  refine wpAny_bind ?_
  rw [getitemInPython_of_ne hT.not_modules]
  refine wpAny_bind (wpAny_specialOf hT hl ?_)
  have fin : wpAny (model prog w) A (subscripted slice false o i) (fun r s₃ => wpAny (model prog w) A (letTemporaryGo value o r >>= fun _ => pure r) Q E s₃) E s₂ := by
    rw [hs o i]
    exact wpAny_operating (wpAny_mono h₂ (fun r s₃ h₃ => wpAny_bind (wpAny_letTemporaryGo (wpAny_pure h₃))) fun _ _ x => x)
  first
    | exact wpAny_pure (wpAny_bind fin)
    | exact wpAny_bind (wpAny_pure (wpAny_bind fin))
    | exact wpAny_bind fin

theorem dict_typeIs {X : Cx} {pins : List (Addr × Obj)} {σ : St} {H : Hp} {s : Shared} {a : Addr} {y : V} {o : Option V} (I : Inv X pins σ H s) (g : DGet H a y o) : s.TypeIs (.ref a) "dict" := by
  rcases g with ⟨kvs, k, e, _, _⟩ | ⟨kvs, k, b, e, _, _, _⟩
  · obtain ⟨_, _, vs, _, dd⟩ := dk_rd I.hok e
    exact dd.typeIs
  · obtain ⟨_, _, xs, _, dd⟩ := dt_rd I.hok e
    exact dd.typeIs
def tDGet (td ty : TE) : TE := fun σ H Q => td σ H fun x H1 => ty σ H1 fun y H2 => ∃ a v, x = .ref a ∧ DGet H2 a y (some v) ∧ Q v H2
def tDIn (ty td : TE) : TE := fun σ H Q => ty σ H fun y H1 => td σ H1 fun x H2 => ∃ a o, x = .ref a ∧ DGet H2 a y o ∧ Q (.bl o.isSome) H2
def tDNotIn (ty td : TE) : TE := fun σ H Q => ty σ H fun y H1 => td σ H1 fun x H2 => ∃ a o, x = .ref a ∧ DGet H2 a y o ∧ Q (.bl (!o.isSome)) H2
def sDPut (td ty tv : TE) : TS := fun D σ H => tv σ H fun v H1 => td σ H1 fun x H2 => ty σ H2 fun y H3 => ∃ a H4, x = .ref a ∧ DPut H3 a y v H4 ∧ D.nx σ H4
def sDAug (td ty tv : TE) (rd : V → V → Hp → VK → Prop) : TS := fun D σ H => td σ H fun x H1 => ty σ H1 fun y H2 => ∃ a v, x = .ref a ∧ DGet H2 a y (some v) ∧
  tv σ H2 fun y2 H3 => rd v y2 H3 fun z H4 => ∃ H5, DPut H4 a y z H5 ∧ D.nx σ H5
def sDDel (td ty : TE) : TS := fun D σ H => td σ H fun x H1 => ty σ H1 fun y H2 => ∃ a kvs k, x = .ref a ∧ H2 a = some (.dK kvs) ∧ y = kV k ∧ (valV kvs k).isSome = true ∧ D.nx σ (upd H2 a (.dK (dropK kvs k)))

section
variable {X : Cx} {o i e value : Expr} {pos pos' tpos : Pos} {td ty tv : TE}
theorem pe_dget (hu : X.A.units + 1 < cLine) (ho : PE X o td) (hi : PE X i ty) (hs : NoSl i) : PE X (.Subscript o i pos) (tDGet td ty) := by
  intro pins s σ H Q I h
  refine subD_of PySem.F.slot_dict_getitem.lookup hs (thn (ho pins s σ H _ I h) fun u s1 ⟨x, H1, I1, rx, q1⟩ => thn (hi pins s1 σ H1 _ I1 q1) fun iv s2 ⟨y, H2, I2, ry, a, v, ex, g, q2⟩ => ?_)
  subst ex
  obtain rfl : u = Value.ref a := rx
  exact ⟨dict_typeIs I2 g, d_getItem hu I2 g ry fun w' s3 I3 rw' => ⟨v, H2, I3, rw', q2⟩⟩
theorem ps_dput (hu : X.A.units + 1 < cLine) (ho : PE X o td) (hi : PE X i ty) (hv : PE X value tv) (hs : swapsWith value (some (.Subscript o i pos')) pos.line X.env = pure false) :
    PS X (.Assign [.Subscript o i pos'] value pos) (sDPut td ty tv) := by
  intro pins s σ H D I h
  refine wpAny_Assign_Subscript (thn (hv pins s σ H _ I h) fun r s1 ⟨v, H1, I1, rv, q1⟩ => thn (ho pins s1 σ H1 _ I1 q1) fun u s2 ⟨x, H2, I2, rx, q2⟩ => thn (hi pins s2 σ H2 _ I2 q2) fun iv s3 ⟨y, H3, I3, ry, a, H4, ex, g, q3⟩ => ?_) hs
  subst ex
  obtain rfl : u = Value.ref a := rx
  exact d_setItem hu I3 g ry rv fun s4 I4 => ⟨σ, H4, I4, q3⟩
end


theorem dk_empty {P : Program} {w : World} {H : Hp} (h : Heap) (hb : sysModules < h.objs.size) : ObjOk P w H (h.push { cls := .type "dict", data := .dict #[] }) h.objs.size (.dK []) :=
  ⟨Nat.zero_le _, beq_eq_false_iff_ne.mpr (Ne.symm (Nat.ne_of_lt hb)), [], .nil, Heap.DictOf.new h⟩
def tDNewK : TE := fun _ H Q => ∀ p, H p = none → Q (.ref p) (upd H p (.dK []))
def tDNewT : TE := fun _ H Q => ∀ p, H p = none → Q (.ref p) (upd H p (.dT []))
section
variable {X : Cx} {pos : Pos}
theorem pe_dnewK : PE X (.Dict [] [] pos) tDNewK := fun pins s σ H Q I h =>
  wpAny_Dict_empty ⟨.ref s.heap.objs.size, _, I.laid (a := s.heap.objs.size) (o := .dK []) (t' := s.toks) (fun _ _ q => Heap.get?_push_of_some _ q) (Nat.le_refl _) (dk_empty s.heap I.big), rfl, h _ (I.hok.fresh (Nat.le_refl _))⟩
end

def tPairs : List (TE × TE) → St → Hp → (List (V × V) → Hp → Prop) → Prop
  | [], _, H, Q => Q [] H
  | (tk, tv) :: r, σ, H, Q => tk σ H fun x H1 => tv σ H1 fun y H2 => tPairs r σ H2 fun ps H3 => Q ((x, y) :: ps) H3
abbrev VV : List (V × V) → List (Value × Value) → Prop := Paired fun p q => RelV p.1 q.1 ∧ RelV p.2 q.2
def PPs (X : Cx) (pos : Pos) (keys : List (Option Expr)) (values : List Expr) (trs : List (TE × TE)) : Prop :=
  ∀ (pins : List (Addr × Obj)) (s : Shared) (σ : St) (H : Hp) (Q : List (V × V) → Hp → Prop), Inv X pins σ H s → tPairs trs σ H Q →
    wpAny (model X.prog X.w) X.A (evalPairs (pairTrees keys values X.env pos)) (fun vs s' => ∃ ps H', Inv X pins σ H' s' ∧ VV ps vs ∧ Q ps H') X.xe s
def mergeK (kvs more : List (Key × V)) : List (Key × V) := more.foldl (fun acc kv => putK acc kv.1 kv.2) kvs
def tDisp (trs : List (TE × TE)) : TE := fun σ H Q => ∀ p, H p = none → tPairs trs σ (upd H p (.dK [])) fun ps H2 => H2 p = some (.dK []) ∧ ∃ kvs : List (Key × V), ps = kvs.map (fun kv => (kV kv.1, kv.2)) ∧ kvs.length ≤ 15 ∧ Q (.ref p) (upd H2 p (.dK (mergeK [] kvs)))
structure M1 (X : Cx) (o : Expr) (m : Str) (apos : Pos) (e : Expr) (cpos : Pos) : Prop where
  base : attributeBase o m X.env (eval o X.env) = eval o X.env
  few : ((backTo cpos (starEach [e] X.env)).all (fun x => !x.1) && (backToKw cpos (keywordEach [] X.env)).all (fun x => x.1.isSome)
    && decide (([e] : List Expr).length + ([] : List Keyword).length + (if ([] : List Keyword).isEmpty then 0 else 1) < 30)) = true
  line : (apos.endLine == cpos.line) = true
  trees : backTo cpos (starEach [e] X.env) = [(false, eval e X.env)]
structure M2 (X : Cx) (o : Expr) (m : Str) (apos : Pos) (e f : Expr) (cpos : Pos) : Prop where
  base : attributeBase o m X.env (eval o X.env) = eval o X.env
  few : ((backTo cpos (starEach [e, f] X.env)).all (fun x => !x.1) && (backToKw cpos (keywordEach [] X.env)).all (fun x => x.1.isSome)
    && decide (([e, f] : List Expr).length + ([] : List Keyword).length + (if ([] : List Keyword).isEmpty then 0 else 1) < 30)) = true
  line : (apos.endLine == cpos.line) = true
  trees : backTo cpos (starEach [e, f] X.env) = [(false, eval e X.env), (false, eval f X.env)]

def IsD (H : Hp) (a : Addr) : Prop := (∃ kvs, Rd H a (.dK kvs)) ∨ ∃ kvs, Rd H a (.dT kvs)
section
variable {X : Cx} {pins : List (Addr × Obj)} {σ : St} {H : Hp} {s : Shared} {a : Addr} {y d : V} {u r : Value} {o : Option V} {A : Around} {E : Value → Shared → Prop}
end

def tDGet1 (td ty : TE) : TE := fun σ H Q => td σ H fun x H1 => ∃ a, x = .ref a ∧ IsD H1 a ∧ ty σ H1 fun y H2 => ∃ o, DGet H2 a y o ∧ Q (o.getD .non) H2
def tDGet2 (td ty tx : TE) : TE := fun σ H Q => td σ H fun x H1 => ∃ a, x = .ref a ∧ IsD H1 a ∧ ty σ H1 fun y H2 => tx σ H2 fun z H3 => ∃ o, DGet H3 a y o ∧ Q (o.getD z) H3
def tDPop1 (td ty : TE) : TE := fun σ H Q => td σ H fun x H1 => ∃ a, x = .ref a ∧ IsD H1 a ∧ ty σ H1 fun y H2 => ∃ kvs k v, H2 a = some (.dK kvs) ∧ y = kV k ∧ valV kvs k = some v ∧ Q v (upd H2 a (.dK (dropK kvs k)))
def tDPop2 (td ty tx : TE) : TE := fun σ H Q => td σ H fun x H1 => ∃ a, x = .ref a ∧ IsD H1 a ∧ ty σ H1 fun y H2 => tx σ H2 fun z H3 => ∃ kvs k, H3 a = some (.dK kvs) ∧ y = kV k ∧
  (∀ v, valV kvs k = some v → Q v (upd H3 a (.dK (dropK kvs k)))) ∧ (valV kvs k = none → Q z H3)
section
variable {X : Cx} {o e f : Expr} {apos cpos : Pos} {td ty tx : TE}
end

section
variable {X : Cx} {pins : List (Addr × Obj)} {σ : St} {H : Hp} {s : Shared} {a : Addr} {kvs : List (Key × V)} {A : Around} {E : Value → Shared → Prop}
end


section
variable {X : Cx} {pins : List (Addr × Obj)} {σ : St} {H : Hp} {s : Shared} {a : Addr} {y : V} {u : Value} {A : Around} {E : Value → Shared → Prop}
end
end L2

namespace Att
open PySem PySem.W PySem.Calls PyProof.Rows

theorem ints_of_wellAll {P : Params} {h : Heap} : ∀ (ns : List Int) (vs : List Value), WellAll P h vs (ns.map WData.int) → IntsAre vs ns := by
  intro ns
  induction ns with
  | nil =>
    intro vs w
    rw [List.map_nil] at w
    cases w
    exact .nil
  | cons n ns ih =>
    intro vs w
    rw [List.map_cons] at w
    cases w with
    | cons a b =>
      cases a
      exact .cons _ _ (ih _ b)

theorem script_of {l : OpenLaw} {n : Nat} (hn : l.most = some n) {P : Params} {h : Heap} {args : List WData} {vals : List Value}
    (hpre : l.row.toRowW.claim.pre args = true) (hwl : WellAll P h vals args) :
    ∃ a vs ns, vals = [Value.ref a] ∧ args = [WData.list (ns.map WData.int)] ∧ h.get? a = some { cls := .type "list", data := .seq vs.toArray } ∧ IntsAre vs ns ∧ ns.length ≤ n := by
  have hsh : WShape.hasAll [] args [.list .int] = true := (pre_splitW hpre).1
  have hc : l.pre.holds [] { args := args } = true := (pre_splitW hpre).2
  obtain ⟨d, r, rfl, h1, h2⟩ := hasAllW_cons hsh
  obtain rfl := hasAllW_nil h2
  obtain ⟨xs, rfl, h3⟩ := hasW_list h1
  obtain ⟨ns, rfl⟩ := items_int h3
  have hlen : ns.length ≤ n := by
    unfold OpenLaw.pre at hc
    have h4 : (WTm.not (.lt (.lit (.int (n : Int))) (.len (.arg 0)))).holds [] { args := [.list (ns.map .int)] } = true := by
      have h4 := (holds_andW hc).1
      rw [hn] at h4
      exact h4
    have h5 := condW_of h4 (w_not (w_lt w_lit (w_len_list (w_arg rfl))))
    rw [List.length_map] at h5
    refine Nat.le_of_not_lt fun q => ?_
    have q' : (n : Int) < ((ns.length : Nat) : Int) := by omega
    first
      | (rw [decide_eq_true q'] at h5; exact absurd h5 (by decide))
      | (simp at h5; omega)
  cases hwl with
  | cons w1 w2 =>
    cases w2
    cases w1 with
    | list ho hall => exact ⟨_, _, ns, rfl, rfl, ho, ints_of_wellAll ns _ hall, hlen⟩

theorem post_true (l : OpenLaw) (args : List WData) : l.row.toRowW.claim.post args (.bool true) args = true :=
  postW_of (r := l.row.toRowW) (X := (true == true))
    (show WShape.has [] (.bool true) .bool = true by first | rfl | decide | simp [WShape.has, WShape.arms, WShape.armsAll])
    (show (WTm.eq .res (.lit (.bool true))).value [] { args := args, res := some (.bool true), after := args } = some (.bool (true == true)) from w_eq_bool (w_res rfl) w_lit) rfl

theorem attach_call {l : OpenLaw} {n : Nat} {q : Program} {loose : List Str} {XP : (Str → Option Value) → Heap → Prop} {YP : World → Heap → Prop} {d : DefRec}
    (hn : l.most = some n) (hdf : d.params.defaults = [])
    (call : ∀ (w : World) (s₀ s₁ : Shared) (mg mb : Str → Option Value) (fa : Addr) (o : Obj) (pm cd doc : Value) (a : Addr) (vs : List Value) (ns : List Int),
      Ground q loose [] XP w s₀ mg mb s₁.heap → YP w s₁.heap →
      s₁.heap.get? fa = some o → o.data = .func (docDef d.name d.params d.body d.scope pm cd doc) → s₁.heap.CodeRec cd d.name → mg d.name = some (.ref fa) →
      s₁.heap.get? a = some { cls := .type "list", data := .seq vs.toArray } → IntsAre vs ns → ns.length ≤ n → s₁.gens = #[] →
      codeAny (model l.prog w) callerA (.call (.ref fa) ⟨[.ref a], []⟩) (fun r s' => r = .ok (.ret (.bool true)) ∧ OldK s₁.heap s'.heap ∧ s'.os = s₁.os ∧ AllBare s'.gens) s₁) :
    WalkO q loose XP YP l.row.toRowW d [] (fun f vs => PySem.call f vs) := by
  intro w s₀ s₁ mg mb G Y fa o pm cd doc dV kV ho hd hcd hD hmg hg args vals as hpre hlay hrd hwl hlo
  obtain rfl : dV = .none := Dflts.none hD hdf
  obtain rfl : kV = .none := Dflts.noKw hD
  obtain ⟨a, vs, ns, rfl, rfl, hobj, hints, hlen⟩ := script_of hn hpre hwl
  refine enter_call (codeAny_mono (call w s₀ s₁ mg mb fa o pm cd doc a vs ns G Y ho (fd_plain hd) hcd hmg hobj hints hlen hg) fun r s' hq => ?_)
  obtain ⟨rfl, h2, h3, h4⟩ := hq
  exact ⟨.inl ⟨.bool true, .bool true, [], rfl, fun _ => rfl, .bool true, post_true l _, fun _ => ⟨List.Pairwise.nil, fun _ hm => (nomatch hm)⟩⟩, h2, h3, h4⟩

section
variable {prog : Program} {w : World} {A : Around} {E : Value → Shared → Prop} {s : Shared} {K : Frag}

def noObjs (h : Heap) : Heap := { h with objs := #[] }
def ledger (h : Heap) (L d : Addr) : List (Addr × Obj) := (List.range h.objs.size).filterMap fun a => if a = L ∨ a = d then none else (h.get? a).map fun o => (a, o)
end
end Att

namespace L2
open PySem PySem.Spec PyProof.Rows

theorem vals_ints : ∀ {vs : List Value} {ns : List Int}, IntsAre vs ns → Vals (ns.map V.int) vs
  | _, _, .nil => .nil
  | _, _, .cons n t h => .cons ⟨t, rfl⟩ (vals_ints h)

def Only (H : Hp) : Prop := ∀ b, H b = none ∨ ∃ o xs, H b = some (.frz o (.lst xs))

theorem law_call {P : Program} {w : World} {K : PySem.W.Frag} {mg mb : Str → Option Value} {CX : CXT} {k : Nat} {fa a : Addr} {fd : FuncData} {x : Str} {sp : Sp} {s₁ : Shared} {vs : List Value} {ns : List Int}
    (KX : K.In s₁.heap) (hns : s₁.heap.Ns mainGlobals mg) (hb : s₁.heap.Ns builtinsNs mb) (hbb : ∀ x : Str, x ≠ "__name__" → mb x = bootBuiltins x) (hlim : s₁.heap.NoLimit) (hg : s₁.gens = #[])
    (ha : s₁.heap.get? a = some { cls := .type "list", data := .seq vs.toArray }) (hi : IntsAre vs ns) (hl : ns.length ≤ sizeLine) (hr : Room k callerA)
    (F : ∀ base : Heap, K.In base → base.Ns mainGlobals mg → FnOk P w K mg base CX k fa fd [x] sp) (hbind : ∀ (s : Shared) (u : Value), BindsTo s fd ⟨[u], []⟩ [(x, u)])
    (hsp : ∀ H : Hp, Only H → SqL K H a (ns.map V.int) → sp [.ref a] H (fun v _ => v = .bl true) fun _ _ _ => False)
    (hCX : ∀ H e s', CX [] H s₁ (fun _ _ _ => False) e s' → False) :
    codeAny (model P w) callerA (.call (.ref fa) ⟨[.ref a], []⟩) (fun r s' => r = .ok (.ret (.bool true)) ∧ OldK s₁.heap s'.heap ∧ s'.os = s₁.os ∧ AllBare s'.gens) s₁ := by
  have rv := vals_ints hi
  have lenV := hi.length
  -- from an abstract heap in which nothing but the script may be tracked
  have core : ∀ H : Hp, Only H → SqL K H a (ns.map V.int) → HOk P w H s₁.heap → (∀ b, H b ≠ none → b = a) → (H a ≠ none → K.lookup a = none) →
      codeAny (model P w) callerA (.call (.ref fa) ⟨[.ref a], []⟩) (fun r s' => r = .ok (.ret (.bool true)) ∧ OldK s₁.heap s'.heap ∧ s'.os = s₁.os ∧ AllBare s'.gens) s₁ := by
    intro H hO hS hok hA hK
    have base_of : ∀ {b : Addr} {o : Obj}, s₁.heap.get? b = some o → H b = none → (hidT s₁.heap H).get? b = some o := fun e n => hidT_get e n
    have noA : ∀ {b : Addr} {o : Obj} {es : Array DictEntry} {ep : Nat}, s₁.heap.get? b = some o → o.data = .dict es ep → H b = none := fun {b o es ep} e d => by
      cases q : H b with
      | none => rfl
      | some u =>
        have e' : b = a := hA b (by rw [q]; simp)
        subst e'
        rw [ha] at e; cases e
        have d' : Data.seq vs.toArray _ = Data.dict es ep := d
        cases d'
    have nsK : ∀ {b : Addr} {m : Str → Option Value}, s₁.heap.Ns b m → (hidT s₁.heap H).Ns b m := fun {b m} ⟨o, es, ep, e, d, r⟩ => ⟨o, es, ep, base_of e (noA e d), d, r⟩
    have hKb : K.In (hidT s₁.heap H) := fun b o e => base_of (KX b o e) (by
      cases q : H b with
      | none => rfl
      | some u =>
        have e' : b = a := hA b (by rw [q]; simp)
        subst e'
        rw [hK (by rw [q]; simp)] at e; cases e)
    have hM : Mod K mg (hidT s₁.heap H) := ⟨hKb, nsK hns, ⟨mb, nsK hb, hbb⟩, let ⟨mc, h1, h2⟩ := hlim; ⟨mc, nsK h1, h2⟩⟩
    have e0 : Env0 P w K mg (hidT s₁.heap H) callerA [] s₁ H := ⟨rfl, hM, fun b o e => of_hidT e, Nat.le_of_eq (hidT_size _ _), trivial, fun b hb => absurd (show b ∈ ([] : List Addr) from hb) (by simp), hok, .of_eq hg⟩
    refine codeAny_mono ((F _ hKb (nsK hns)).run callerA [] s₁ H ⟨[.ref a], []⟩ [.ref a] [.ref a] _ _ hr e0 (hbind s₁ (.ref a)) (.cons rfl .nil) (hsp H hO hS)) fun r s' h => ?_
    cases r with
    | error e => exact (hCX H e s' h).elim
    | ok fl =>
      cases fl with
      | next => exact False.elim h
      | brk => exact False.elim h
      | cont => exact False.elim h
      | ret u =>
        obtain ⟨v, H', os, bare, un, hok', r', q⟩ := h
        have q' : v = .bl true := q
        subst q'
        obtain rfl : u = Value.bool true := r'
        refine ⟨rfl, OldK.of_keep fun b o e => ?_, os, bare⟩
        cases q : H b with
        | none => exact un.keep b o e q (by intro z; exact absurd (show b ∈ ([] : List Addr) from z) (by simp)) (by simp)
        | some u =>
          rcases hO b with z | ⟨ob, xs, z⟩
          · rw [q] at z; cases z
          · have z2 := un.frzs b ob _ z
            obtain ⟨e1, _⟩ := hok b _ z
            obtain ⟨e2, _⟩ := hok' b _ z2
            rw [e] at e1; cases e1
            exact e2
  cases hk : K.lookup a with
  | some o =>
    -- the script is one of the module's own objects
    have e := KX a o hk
    rw [ha] at e
    cases e
    refine core (fun _ => none) (fun _ => .inl rfl) (.inr ⟨_, vs.toArray, _, hk, rfl, rfl, rfl, by rw [List.size_toArray, lenV]; exact hl, by simpa using rv⟩) (fun b u z => by have z' : (none : Option HO) = some u := z; cases z') (fun b z => absurd rfl z) fun z => absurd rfl z
  | none =>
    refine core (fun b => if b = a then some (.frz { cls := .type "list", data := .seq vs.toArray } (.lst (ns.map V.int))) else none) (fun b => ?_) (.inl (.inr ⟨{ cls := .type "list", data := .seq vs.toArray }, if_pos rfl⟩)) (fun b u z => ?_) (fun b z => ?_) fun _ => hk
    · by_cases hb : b = a
      · exact .inr ⟨_, _, if_pos hb⟩
      · exact .inl (if_neg hb)
    · by_cases hb : b = a
      · have z' := (if_pos hb).symm.trans z
        cases z'
        subst hb
        exact ⟨ha, by rw [List.length_map]; exact hl, vs, _, rv, ha⟩
      · have z' := (if_neg hb).symm.trans z
        cases z'
    · by_cases hb : b = a
      · exact hb
      · exact absurd (if_neg hb) z
end L2

namespace L2
open PySem PySem.Spec PyProof.Rows

abbrev KOf {K : PySem.W.Frag} {h : Heap} (_ : K.In h) : PySem.W.Frag := K

theorem walk_of {l : PySem.W.OpenLaw} {n k : Nat} {q : Program} {loose : List Str} {XP : (Str → Option Value) → Heap → Prop} {YP : World → Heap → Prop} {d : DefRec} {K : Params → PySem.W.Frag} {CX : World → CXT} {sp : World → Sp} {x : Str}
    (hn : l.most = some n) (hn2 : n ≤ sizeLine) (hdf : d.params.defaults = []) (hr : Room k callerA)
    (hY : ∀ (w : World) (h : Heap), YP w h → (K w.params).In h)
    (F : ∀ (w : World) (mg : Str → Option Value) (fa : Addr) (h : Heap), (K w.params).In h → h.Ns mainGlobals mg → mg d.name = some (.ref fa) →
      ∃ fd : FuncData, (∀ (s : Shared) (u : Value), BindsTo s fd ⟨[u], []⟩ [(x, u)]) ∧
        ∀ base : Heap, (K w.params).In base → base.Ns mainGlobals mg → FnOk l.prog w (K w.params) mg base (CX w) k fa fd [x] (sp w))
    (hsp : ∀ (w : World) (H : Hp) (a : Addr) (ns : List Int), ns.length ≤ n → Only H → SqL (K w.params) H a (ns.map V.int) → sp w [.ref a] H (fun v _ => v = .bl true) fun _ _ _ => False)
    (hCX : ∀ (w : World) (H : Hp) (s : Shared) (e : Value) (s' : Shared), CX w [] H s (fun _ _ _ => False) e s' → False) :
    PySem.W.WalkO q loose XP YP l.row.toRowW d [] (fun f vs => PySem.call f vs) := by
  refine Att.attach_call hn hdf fun w s₀ s₁ mg mb fa o pm cd doc a vs ns G Y ho hd hcd hmg hobj hints hlen hg => ?_
  have KX := hY w _ Y
  obtain ⟨fd, hb, hF⟩ := F w mg fa _ KX G.T.g hmg
  exact law_call KX G.T.g G.T.b G.T.builtins G.T.nolimit hg hobj hints (Nat.le_trans hlen hn2) hr hF hb (fun H hO hS => hsp w H a ns hlen hO hS) fun H e s' => hCX w H s₁ e s'
theorem walk_ofK {l : PySem.W.OpenLaw} {n k : Nat} {q : Program} {loose : List Str} {XP : (Str → Option Value) → Heap → Prop} {YP : World → Heap → Prop} {d : DefRec} {K : Params → PySem.W.Frag} {CX : CXT} {sp : PySem.W.Frag → Sp} {x : Str}
    (hn : l.most = some n) (hn2 : n ≤ sizeLine) (hdf : d.params.defaults = []) (hr : Room k callerA)
    (hY : ∀ (w : World) (h : Heap), YP w h → (K w.params).In h)
    (F : ∀ (w : World) (mg : Str → Option Value) (fa : Addr) (h : Heap), (K w.params).In h → h.Ns mainGlobals mg → mg d.name = some (.ref fa) →
      ∃ fd : FuncData, (∀ (s : Shared) (u : Value), BindsTo s fd ⟨[u], []⟩ [(x, u)]) ∧
        ∀ base : Heap, (K w.params).In base → base.Ns mainGlobals mg → FnOk l.prog w (K w.params) mg base CX k fa fd [x] (sp (K w.params)))
    (hsp : ∀ (K : PySem.W.Frag) (H : Hp) (a : Addr) (ns : List Int), ns.length ≤ n → Only H → SqL K H a (ns.map V.int) → sp K [.ref a] H (fun v _ => v = .bl true) fun _ _ _ => False)
    (hCX : ∀ (H : Hp) (s : Shared) (e : Value) (s' : Shared), CX [] H s (fun _ _ _ => False) e s' → False) :
    PySem.W.WalkO q loose XP YP l.row.toRowW d [] (fun f vs => PySem.call f vs) :=
  walk_of (K := K) (CX := fun _ => CX) (sp := fun w => sp (K w.params)) hn hn2 hdf hr hY F (fun w H a ns h1 h2 h3 => hsp (K w.params) H a ns h1 h2 h3) fun _ H s e s' => hCX H s e s'
end L2

/- THE LAST THEOREM (shape; LID, My.* are yours):
   My.Adr: a structure of the addresses that your layer names (classes, functions); My.Txt K t: a structure (Prop) of the equations over K;
   My.txt_mk : {K} {implicit addresses ..} (e1 : nsIn K mainGlobals "law" = some (some (.ref f))) (e2 : K.lookup f = some ⟨oc, od, .func (fnOf "law" "law" params body scope dV kV doc pm an cdv ct), sl⟩) (e3 : codeIn K cdv "law" = true) .. : ∃ t, My.Txt K t

set_option maxRecDepth 100000 in
set_option maxHeartbeats 0 in
theorem PySem.Challenge.cw_LID_holds : PySem.Challenge.rw_LID.Holds := by
  w_on; o_law; k_head; (case hw => w_witness2)
  k_fill
  refine L2.walk_of (l := PySem.Challenge.rw_LID) (n := 63) (k := 40) (x := "script") (CX := fun w => ..) (sp := fun _ => My.sp_law) rfl (by decide) rfl ⟨rfl, by decide, by decide⟩ (fun w h Y => PySem.W.kIn_of Y) ?F ?S ?C
  case F =>
    intro w mg fa h KX G hmg
    have T : ∃ t, My.Txt (L2.KOf KX) t := by
      dsimp only [L2.KOf]                          -- K must stand as «<heap const> w.params» for k_is
      refine' My.txt_mk ?e1 ?e2 ?e3 ..
      (case e1 => PySem.W.k_is)                    -- in the order: a name -> its address -> its object -> its parts
      (case e2 => PySem.W.k_is)
      ..
    obtain ⟨t, T⟩ := T
    have e0 := hmg.symm.trans (PySem.W.mg_of KX G T.law)
    cases e0                                       -- fa is the law's own address
    exact ⟨_, fun s u => .of_eq rfl, fun base kb nb => My.law_fn T kb nb⟩     -- if «.of_eq rfl» comes too early: refine' ⟨_, ?b, fun base kb nb => My.law_fn T kb nb⟩; exact fun s u => .of_eq rfl
  case S => exact fun w H a ns hl hO hS => ..
  case C => exact ..
(the tactic k_is has no namespace: write k_is) -/

namespace L2
open PySem PySem.Spec PyProof.Rows

def inClass (s : Stmt) (j : Nat) : Stmt := match s with
  | .ClassDef _ _ _ body _ _ _ _ _ _ _ => body.getD j (.Pass ⟨0, 0, 0, 0⟩)
  | _ => .Pass ⟨0, 0, 0, 0⟩
def defArgs (s : Stmt) : Arguments := match s with
  | .FunctionDef _ a _ _ _ _ _ _ _ _ => a
  | _ => { posonlyargs := [], args := [], vararg := none, kwonlyargs := [], kw_defaults := [], kwarg := none, defaults := [] }
def defBody (s : Stmt) : List Stmt := match s with
  | .FunctionDef _ _ b _ _ _ _ _ _ _ => b
  | _ => []
def defScope (s : Stmt) : Scope := match s with
  | .FunctionDef _ _ _ _ _ _ sc _ _ _ => sc
  | _ => { kind := .function, names := [], isGenerator := false, isCoroutine := false }

abbrev CX0 : CXT := fun _ _ _ _ _ _ => False
abbrev E0 : XK := fun _ _ _ => False
theorem pass0 {X : Cx} : Passes CX0 X E0 := fun _ _ _ _ _ _ _ h => h.elim

structure Fun (K : PySem.W.Frag) (x qual : Str) (st : Stmt) (f : Addr) (fd : FuncData) : Prop where
  ex : ∃ (oc : Value) (od : Option Addr) (kV doc pm : Value) (an : Option Addr) (cdv ct : Value) (osl : Array (Option Value)),
    fd = PySem.W.fnOf x qual (defArgs st) (defBody st) (defScope st) .none kV doc pm an cdv ct ∧ K.lookup f = some ⟨oc, od, .func fd, osl⟩ ∧ PySem.W.codeIn K cdv qual = true
  kp : PySem.W.keepIn K (.ref f) = true
section
variable {P : Program} {w : World} {K : PySem.W.Frag} {mg : Str → Option Value} {base : Heap}
end
theorem hu_of {A : Around} {k : Nat} (hr : Room k A) : A.units + 1 < cLine := Nat.lt_of_le_of_lt (Nat.add_le_add_left (by decide : 1 ≤ 64) _) hr.units
section
variable {X : Cx}
theorem pv (i : Nat) {x : Str} {pos : Pos} (hN : X.N[i]? = some x := by rfl) (hv : Vis X.env.scope x := by first | exact Or.inl rfl | exact Or.inr (Or.inl rfl) | exact Or.inr (Or.inr rfl)) (hd : (x == ("__debug__" : Str)) = false := by decide)
    (hcd : (x == ("__classdict__" : Str)) = false := by decide) : PE X (.Name x pos) (tVar i) := pe_var hN hv hd hcd
end

theorem iteF {A B : Prop} (h : B) : if false = true then A else B := by
  rw [if_neg Bool.false_ne_true]
  exact h
theorem iteT {A B : Prop} (h : A) : if true = true then A else B := by
  rw [if_pos rfl]
  exact h
def Same (H H' : Hp) : Prop := ∀ b o, H b = some o → H' b = some o
theorem Same.refl (H : Hp) : Same H H := fun _ _ h => h
theorem Same.trans {H H1 H2 : Hp} (a : Same H H1) (b : Same H1 H2) : Same H H2 := fun c o h => b c o (a c o h)
theorem Same.seq {K : PySem.W.Frag} {H H' : Hp} {a : Addr} {xs : List V} (e : Same H H') (h : SqL K H a xs) : SqL K H' a xs := by
  rcases h with (h | ⟨o, h⟩) | h
  · exact .inl (.inl (e _ _ h))
  · exact .inl (.inr ⟨o, e _ _ h⟩)
  · exact .inr h

section
variable {κ : Type} [DecidableEq κ]
end
end L2

namespace L2
open PySem PySem.Spec PyProof.Rows
section
variable {X : Cx}
def CMulB (i j : Int) : Prop := i.natAbs < 2 ^ 2000 ∧ j.natAbs < 2 ^ 2000
theorem CMulB.ok {i j : Int} (h : CMulB i j) : IntMulOk i j := by
  have h1 : Builtin.Int.intBits i ≤ 2000 := PyProof.Rows.intBits_le h.1
  have h2 : Builtin.Int.intBits j ≤ 2000 := PyProof.Rows.intBits_le h.2
  have h3 : Builtin.Int.intTooBig ((Builtin.Int.intBits i + Builtin.Int.intBits j : Nat) : Int) = false := by
    unfold Builtin.Int.intTooBig
    have : (bitsLine : Nat) = 134217728 := rfl
    refine decide_eq_false ?_
    omega
  unfold IntMulOk
  have h4 : Builtin.Int.intTooBig (Builtin.Int.intBits i + Builtin.Int.intBits j) = false := by
    have e : ((Builtin.Int.intBits i : Int) + (Builtin.Int.intBits j : Int)) = ((Builtin.Int.intBits i + Builtin.Int.intBits j : Nat) : Int) := by omega
    rw [e]; exact h3
  rw [h4]
  simp
theorem op_mulB : OpR X (binaryOp .Mult) (rI CMulB fun i j => .int (i * j)) := opI fun _ _ _ _ _ _ _ hc q => mul_int q hc.ok
def CDivB (_ j : Int) : Prop := 0 < j ∧ j.natAbs < 2 ^ 2000
theorem op_fdivB : OpR X (binaryOp .FloorDiv) (rI CDivB fun i j => .int (i / j)) := opI fun i j _ _ _ _ _ hc q => by
  have e : i.fdiv j = i / j := Int.fdiv_eq_ediv_of_nonneg _ (Int.le_of_lt hc.1)
  have hl : j.natAbs.log2 < 9000 := by
    have h0 : j.natAbs ≠ 0 := by have := hc.1; omega
    have h2 : j.natAbs.log2 < 2000 := (Nat.log2_lt h0).mpr hc.2
    omega
  refine floordiv_int (by have := hc.1; omega) ?_ (.inl (PyProof.noPylong_of_log2 hl))
  rw [e]; exact q
inductive ClsV : V → Value → Prop where
  | ty (n : String) : ClsV (.ty n) (.type n)
  | ref (C : Addr) : ClsV (.ref C) (.ref C)
def rIsi (K : PySem.W.Frag) : List V → Hp → VK → Prop := fun xs H Q => ∃ x c cv t b, xs = [x, c] ∧ ClsV c cv ∧ TyOf K H x t ∧ PySem.W.kitOne K t cv = some b ∧ Q (.bl b) H
structure BaseM (K : PySem.W.Frag) (C : Addr) (m : Str) (f : Addr) : Prop where
  ga : PySem.W.specialIn K (.ref C) "__getattribute__" = some (some (.builtin "type.__getattribute__"))
  rd : PySem.W.readsIn K C (.type "type") = true
  fd : PySem.W.findCls K (.ref C) (.type "type") m = some (.val (.ref f))
  kp : PySem.W.keepIn K (.ref f) = true
end
end L2

namespace L2
open PySem PySem.Spec PyProof.Rows
mutual
inductive HasD (K : PySem.W.Frag) (H : Hp) : V → PyData → Prop where
  | non : HasD K H .non .none
  | bl (b : Bool) : HasD K H (.bl b) (.bool b)
  | int (i : Int) : HasD K H (.int i) (.int i)
  | str (x : Str) : HasD K H (.str x) (.str x)
  | tup {a : Addr} {xs : List V} {ds : List PyData} (h : SqT K H a xs) (r : HasDs K H xs ds) : HasD K H (.ref a) (.tuple ds)
  | lst {a : Addr} {xs : List V} {ds : List PyData} (h : SqL K H a xs) (r : HasDs K H xs ds) : HasD K H (.ref a) (.list ds)
inductive HasDs (K : PySem.W.Frag) (H : Hp) : List V → List PyData → Prop where
  | nil : HasDs K H [] []
  | cons {x : V} {d : PyData} {xs : List V} {ds : List PyData} (h : HasD K H x d) (r : HasDs K H xs ds) : HasDs K H (x :: xs) (d :: ds)
end
theorem SqT.keeps {K : PySem.W.Frag} {H H' : Hp} {a : Addr} {xs : List V} (e : Same H H') (h : SqT K H a xs) : SqT K H' a xs := by
  rcases h with (h | ⟨o, h⟩) | h
  · exact .inl (.inl (e _ _ h))
  · exact .inl (.inr ⟨o, e _ _ h⟩)
  · exact .inr h
mutual
theorem HasD.keeps {K : PySem.W.Frag} {H H' : Hp} (e : Same H H') : ∀ {v : V} {d : PyData}, HasD K H v d → HasD K H' v d
  | _, _, .non => .non
  | _, _, .bl b => .bl b
  | _, _, .int i => .int i
  | _, _, .str x => .str x
  | _, _, .tup h r => .tup (SqT.keeps e h) (HasDs.keeps e r)
  | _, _, .lst h r => .lst (Same.seq e h) (HasDs.keeps e r)
theorem HasDs.keeps {K : PySem.W.Frag} {H H' : Hp} (e : Same H H') : ∀ {vs : List V} {ds : List PyData}, HasDs K H vs ds → HasDs K H' vs ds
  | _, _, .nil => .nil
  | _, _, .cons h r => .cons (HasD.keeps e h) (HasDs.keeps e r)
end
section
variable {X : Cx} {pins : List (Addr × Obj)} {σ : St} {H : Hp} {s : Shared}
mutual
theorem HasD.reads (I : Inv X pins σ H s) : ∀ {v : V} {d : PyData} {u : Value}, HasD X.K H v d → RelV v u → ∃ as, Reads s.heap u d as
  | _, _, _, .non, r => by cases r; exact ⟨_, .none⟩
  | _, _, _, .bl b, r => by cases r; exact ⟨_, .bool b⟩
  | _, _, _, .int i, r => by obtain ⟨t, rfl⟩ := r; exact ⟨_, .int i t⟩
  | _, _, _, .str x, r => by obtain ⟨t, rfl⟩ := r; exact ⟨_, .str x t⟩
  | _, _, _, .tup h q, r => by
    cases r
    obtain ⟨its, rv, ⟨o, h1, h2, n, h3⟩, _⟩ := I.tuple h
    obtain ⟨as, ra⟩ := HasDs.reads I q rv
    exact ⟨_, .tuple h1 h2 h3 (by simpa using ra)⟩
  | _, _, _, .lst h q, r => by
    cases r
    obtain ⟨its, rv, ⟨o, n, h1, h2, _, h3⟩, _⟩ := I.list h
    obtain ⟨as, ra⟩ := HasDs.reads I q rv
    exact ⟨_, .list h1 h2 h3 (by simpa using ra)⟩
theorem HasDs.reads (I : Inv X pins σ H s) : ∀ {vs : List V} {ds : List PyData} {us : List Value}, HasDs X.K H vs ds → Vals vs us → ∃ as, ReadsAll s.heap us ds as
  | _, _, _, .nil, r => by cases r; exact ⟨_, .nil⟩
  | _, _, _, .cons h q, r => by
    cases r with
    | cons r1 r2 =>
      obtain ⟨as, ra⟩ := HasD.reads I h r1
      obtain ⟨bs, rb⟩ := HasDs.reads I q r2
      exact ⟨_, .cons ra rb⟩
end
end
section
variable {X : Cx}
def rEqD (K : PySem.W.Frag) (f : Bool → Bool) : R2 := fun x y H Q => ∃ d e, HasD K H x d ∧ HasD K H y e ∧ d.canLay0 = true ∧ e.canLay0 = true ∧ d.depth ≤ 8 ∧ Q (.bl (f (PyData.eqv d e))) H
theorem op_eqD (hu : X.A.units + 8 < cLine) : OpR X (compareOp .Eq) (rEqD X.K id) := by
  intro pins s σ H x y v u Q I rx ry h
  obtain ⟨d, e, hd, he, c1, c2, hn, q⟩ := h
  obtain ⟨as, ra⟩ := hd.reads I rx
  obtain ⟨bs, rb⟩ := he.reads I ry
  exact SeqAt.compareEq_reads ra rb c1 c2 (by have := Nat.min_le_left d.depth e.depth; omega) ⟨.bl _, H, I, rfl, q⟩
theorem op_neD (hu : X.A.units + 8 < cLine) : OpR X (compareOp .NotEq) (rEqD X.K not) := by
  intro pins s σ H x y v u Q I rx ry h
  obtain ⟨d, e, hd, he, c1, c2, hn, q⟩ := h
  obtain ⟨as, ra⟩ := hd.reads I rx
  obtain ⟨bs, rb⟩ := he.reads I ry
  exact SeqAt.compareNe_reads ra rb c1 c2 (by have := Nat.min_le_left d.depth e.depth; omega) ⟨.bl _, H, I, rfl, q⟩
end
end L2

namespace L2
open PySem PySem.Spec PyProof.Rows
structure Cal (P : Program) (w : World) (K : PySem.W.Frag) (mg : Str → Option Value) (base : Heap) (k : Nat) (f : Addr) (ps : List Str) (dvs : List V) (sp : Sp) : Prop where
  ex : ∃ (fd : FuncData) (ds : List Value), FnOk P w K mg base CX0 k f fd ps sp ∧ Binds K fd ps ds ∧ Vals dvs ds
section
variable {X : Cx} {k : Nat} {f C : Addr} {ps : List Str} {sp : Sp} {dvs : List V} {x m : Str} {p pos apos : Pos} {e o : Expr} {es : List Expr} {ta : TE} {t : TA}
theorem pc_call (c : Cal X.prog X.w X.K X.mg X.base k f ps dvs sp) (hr : Room k X.A) (hg : Gl X x) (hm : X.mg x = some (.ref f)) (hk : PySem.W.keepIn X.K (.ref f) = true)
    (ha : PA X (e :: es) t) (hdb : (x == ("__debug__" : Str)) = false := by decide) (he : starEach (e :: es) X.env = (false, eval e X.env) :: starEach es X.env := by rfl) (hpl : (backTo pos (starEach es X.env)).any (·.1) = false := by rfl) :
    PE X (.Call (.Name x p) (e :: es) [] pos) (tCall sp dvs E0 t) := by
  obtain ⟨fd, ds, F, hb, hd⟩ := c.ex
  exact pe_call F hr hg hm hk hb hd pass0 ha hdb he hpl
end
structure FunD (K : PySem.W.Frag) (x qual : Str) (st : Stmt) (f : Addr) (dV : Value) (fd : FuncData) : Prop where
  ex : ∃ (oc : Value) (od : Option Addr) (kV doc pm : Value) (an : Option Addr) (cdv ct : Value) (osl : Array (Option Value)),
    fd = PySem.W.fnOf x qual (defArgs st) (defBody st) (defScope st) dV kV doc pm an cdv ct ∧ K.lookup f = some ⟨oc, od, .func fd, osl⟩ ∧ PySem.W.codeIn K cdv qual = true
theorem funD_mk {K : PySem.W.Frag} {x qual : Str} {st : Stmt} {f : Addr} {oc : Value} {od an : Option Addr} {osl : Array (Option Value)} {dV kV doc pm cdv ct : Value} (l : K.lookup f = some ⟨oc, od, .func (PySem.W.fnOf x qual (defArgs st) (defBody st) (defScope st) dV kV doc pm an cdv ct), osl⟩)
    (c : PySem.W.codeIn K cdv qual = true) : FunD K x qual st f dV (PySem.W.fnOf x qual (defArgs st) (defBody st) (defScope st) dV kV doc pm an cdv ct) := ⟨⟨oc, od, kV, doc, pm, an, cdv, ct, osl, rfl, l, c⟩⟩
section
variable {P : Program} {w : World} {K : PySem.W.Frag} {mg : Str → Option Value} {base : Heap}
theorem FunD.ok {x qual : Str} {st : Stmt} {f : Addr} {dV : Value} {fd : FuncData} {N ps : List Str} {k : Nat} {sp : Sp} (F : FunD K x qual st f dV fd) (S : FnScope N ps (defScope st)) (len : ∀ vs H Q E, sp vs H Q E → vs.length = ps.length)
    (hbody : ∀ (cdv : Value) (A : Around) (outer : List Env) (s : Shared) (H : Hp) (vs : List V) (Q : VK) (E : XK), Room k (A.deeper (envOfC qual (defScope st) s.heap.objs.size f cdv)) → sp vs H Q E →
      ∃ t, PSs (cxOf CX0 P w K mg base N qual (defScope st) f cdv A outer s H E).nox (defBody st) t ∧ t { nx := fun _ H' => Q .non H', rt := Q } (start N vs) H) : FnOk P w K mg base CX0 (k + 1) f fd ps sp := by
  obtain ⟨oc, od, kV, doc, pm, an, cdv, ct, osl, rfl, lk, hcd⟩ := F.ex
  refine fn_of lk hcd S len fun A outer s H vs Q E hr hsp => ?_
  obtain ⟨t, h, q⟩ := hbody cdv A outer s H vs Q E hr hsp
  exact ⟨t, h.nox, q⟩
theorem FunD.binds {x qual : Str} {st : Stmt} {f : Addr} {dV : Value} {fd : FuncData} {ps : List Str} {ds : List Value} (F : FunD K x qual st f dV fd)
    (h : ∀ (kV doc pm : Value) (an : Option Addr) (cdv ct : Value), Binds K (PySem.W.fnOf x qual (defArgs st) (defBody st) (defScope st) dV kV doc pm an cdv ct) ps ds) : Binds K fd ps ds := by
  obtain ⟨oc, od, kV, doc, pm, an, cdv, ct, osl, rfl, lk, hcd⟩ := F.ex
  exact h kV doc pm an cdv ct
end
end L2

namespace L2
open PySem PySem.Spec PyProof.Rows
structure DefT (K : PySem.W.Frag) (T : Addr) (items : Array Value) : Prop where
  ex : ∃ (o : Obj) (n : Nat), K.lookup T = some o ∧ o.data = .seq items n
structure TyCls (K : PySem.W.Frag) (C : Addr) : Prop where
  ha : PySem.W.findIn K (.ref C) "__class__" = some (some (.builtin "object.__class__"))
  hn : PySem.W.specialIn K (.builtin "object.__class__") "__get__" = some (some (.builtin "getset_descriptor.__get__"))
  ht : PySem.W.takesIn K (.builtin "object.__class__") = some true
  hm : PySem.W.mroIn K C (.type "object") = some true
section
variable {σ : St} {H : Hp} {Q : VK} {D : Ends} {K : PySem.W.Frag}
theorem r_next (h : D.nx σ H) : tNext D σ H := h
theorem r_ret {te : TE} (h : te σ H D.rt) : tRet te D σ H := h
theorem r_drop {te : TE} (h : te σ H fun _ H1 => D.nx σ H1) : tDrop te D σ H := h
theorem r_ifS {c : TT} {t u : TS} (h : c σ H fun b H1 => if b = true then t D σ H1 else u D σ H1) : tIfS c t u D σ H := h
theorem r_asg {te : TE} {i : Nat} (h : te σ H fun x H1 => D.nx (σ.set i (some x)) H1) : tAsg te (gName i) D σ H := h
theorem r_var {i : Nat} {v : V} (e : σ[i]? = some (some v)) (h : Q v H) : tVar i σ H Q := ⟨v, e, h⟩
theorem r_c {v : V} (h : Q v H) : tC v σ H Q := h
theorem r_op {r : R2} {ta tb : TE} (h : ta σ H fun x H1 => tb σ H1 fun y H2 => r x y H2 Q) : tOp r ta tb σ H Q := h
theorem r_i0 {g : Int → Int → V} {i j : Int} (h : Q (g i j) H) : rI0 g (.int i) (.int j) H Q := ⟨i, j, rfl, rfl, h⟩
theorem r_i {C : Int → Int → Prop} {g : Int → Int → V} {i j : Int} (c : C i j) (h : Q (g i j) H) : rI C g (.int i) (.int j) H Q := ⟨i, j, rfl, rfl, c, h⟩
theorem r_test {t : TE} {Q : Bool → Hp → Prop} (h : t σ H fun x H' => ∃ k, x = .bl k ∧ Q k H') : tTest t σ H Q := h
theorem r_not {t : TT} {Q : Bool → Hp → Prop} (h : t σ H fun c H1 => Q (!c) H1) : tNot t σ H Q := h
theorem r_bl {b : Bool} {R : Bool → Prop} (h : R b) : ∃ k, V.bl b = .bl k ∧ R k := ⟨b, rfl, h⟩
theorem r_nil {Q : List V → Hp → Prop} (h : Q [] H) : tNil σ H Q := h
theorem r_cons {ta : TE} {tr : TA} {Q : List V → Hp → Prop} (h : ta σ H fun x H1 => tr σ H1 fun xs H2 => Q (x :: xs) H2) : tCons ta tr σ H Q := h
theorem r_cb {r : List V → Hp → VK → Prop} {t : TA} (h : t σ H fun vs H1 => r vs H1 Q) : tCB r t σ H Q := h
theorem if_false' {A B : Prop} (h : B) : if false = true then A else B := by rw [if_neg Bool.false_ne_true]; exact h
end
end L2

namespace L2
open PySem PySem.Spec PyProof.Rows
section
variable {X : Cx} {e : Expr} {es : List Expr}
theorem PE.weak {t u : TE} (h1 : PE X e t) (h : ∀ σ H Q, u σ H Q → t σ H Q) : PE X e u := fun pins s σ H Q I q => h1 pins s σ H Q I (h σ H Q q)
def mE (t : TE) : TE := fun σ H Q => ∃ Q' : VK, t σ H Q' ∧ ∀ v H', Q' v H' → Q v H'
def mA (t : TA) : TA := fun σ H Q => ∃ Q' : List V → Hp → Prop, t σ H Q' ∧ ∀ v H', Q' v H' → Q v H'
theorem PA.m {t : TA} (h : PA X es t) : PA X es (mA t) := fun pos pins s σ H Q I ⟨Q', q, m⟩ => thn (h pos pins s σ H Q' I q) fun _ _ ⟨v, H', I', r, z⟩ => ⟨v, H', I', r, m v H' z⟩
end
def keyD : Key → PyData
  | .inl i => .int i
  | .inr x => .str x
mutual
inductive Dv (H : Hp) : V → PyData → Prop where
  | non : Dv H .non .none
  | bl (b : Bool) : Dv H (.bl b) (.bool b)
  | int (i : Int) : Dv H (.int i) (.int i)
  | str (x : Str) : Dv H (.str x) (.str x)
  | tup {a : Addr} {xs : List V} {ds : List PyData} (h : H a = some (.tup xs)) (r : Dvs H xs ds) : Dv H (.ref a) (.tuple ds)
  | lst {a : Addr} {xs : List V} {ds : List PyData} (h : Rd H a (.lst xs)) (r : Dvs H xs ds) : Dv H (.ref a) (.list ds)
  | dct {a : Addr} {kvs : List (Key × V)} {ds : List (PyData × PyData)} (h : H a = some (.dK kvs)) (r : Dks H kvs ds) : Dv H (.ref a) (.dict ds)
inductive Dks (H : Hp) : List (Key × V) → List (PyData × PyData) → Prop where
  | nil : Dks H [] []
  | cons {k : Key} {x : V} {d : PyData} {xs : List (Key × V)} {ds : List (PyData × PyData)} (h : Dv H x d) (r : Dks H xs ds) : Dks H ((k, x) :: xs) ((keyD k, d) :: ds)
inductive Dvs (H : Hp) : List V → List PyData → Prop where
  | nil : Dvs H [] []
  | cons {x : V} {d : PyData} {xs : List V} {ds : List PyData} (h : Dv H x d) (r : Dvs H xs ds) : Dvs H (x :: xs) (d :: ds)
end
mutual
theorem Dv.has {K : PySem.W.Frag} {H : Hp} : ∀ {v : V} {d : PyData}, Dv H v d → d.canLay0 = true → HasD K H v d
  | _, _, .non, _ => .non
  | _, _, .bl b, _ => .bl b
  | _, _, .int i, _ => .int i
  | _, _, .str x, _ => .str x
  | _, _, .tup h r, c => .tup (.of h) (Dvs.has r (by simpa [PyData.canLay0] using c))
  | _, _, .lst h r, c => .lst (.inl h) (Dvs.has r (by simpa [PyData.canLay0] using c))
  | _, _, .dct h r, c => by simp [PyData.canLay0] at c
theorem Dvs.has {K : PySem.W.Frag} {H : Hp} : ∀ {v : List V} {d : List PyData}, Dvs H v d → PyData.canLayAll0 d = true → HasDs K H v d
  | _, _, .nil, _ => .nil
  | _, _, .cons h r, c => by
    have c' := c
    simp only [PyData.canLayAll0, Bool.and_eq_true] at c'
    exact .cons (Dv.has h c'.1) (Dvs.has r c'.2)
end
theorem Same.rd {H H' : Hp} {a : Addr} {u : HO} (e : Same H H') (h : Rd H a u) : Rd H' a u := by
  rcases h with h | ⟨o, h⟩
  · exact .inl (e _ _ h)
  · exact .inr ⟨o, e _ _ h⟩
mutual
theorem Dv.keeps {H H' : Hp} (e : Same H H') : ∀ {v : V} {d : PyData}, Dv H v d → Dv H' v d
  | _, _, .non => .non
  | _, _, .bl b => .bl b
  | _, _, .int i => .int i
  | _, _, .str x => .str x
  | _, _, .tup h r => .tup (e _ _ h) (Dvs.keeps e r)
  | _, _, .lst h r => .lst (e.rd h) (Dvs.keeps e r)
  | _, _, .dct h r => .dct (e _ _ h) (Dks.keeps e r)
theorem Dks.keeps {H H' : Hp} (e : Same H H') : ∀ {v : List (Key × V)} {d : List (PyData × PyData)}, Dks H v d → Dks H' v d
  | _, _, .nil => .nil
  | _, _, .cons h r => .cons (Dv.keeps e h) (Dks.keeps e r)
theorem Dvs.keeps {H H' : Hp} (e : Same H H') : ∀ {v : List V} {d : List PyData}, Dvs H v d → Dvs H' v d
  | _, _, .nil => .nil
  | _, _, .cons h r => .cons (Dv.keeps e h) (Dvs.keeps e r)
end
theorem Dvs.length {H : Hp} : ∀ {xs : List V} {ds : List PyData}, Dvs H xs ds → xs.length = ds.length
  | _, _, .nil => rfl
  | _, _, .cons _ r => by simp [Dvs.length r]
theorem Dvs.get {H : Hp} : ∀ {xs : List V} {ds : List PyData} {i : Nat} {d : PyData}, Dvs H xs ds → ds[i]? = some d → ∃ x, xs[i]? = some x ∧ Dv H x d
  | _, _, _, _, .nil, e => by simp at e
  | _, _, 0, _, .cons h _, e => by simp at e; subst e; exact ⟨_, rfl, h⟩
  | _, _, i + 1, x, .cons _ r, e => by
    obtain ⟨d, h1, h2⟩ := Dvs.get (i := i) (d := x) r (by simpa using e)
    exact ⟨d, by simpa using h1, h2⟩
theorem Dvs.append {H : Hp} : ∀ {xs ys : List V} {ds es : List PyData}, Dvs H xs ds → Dvs H ys es → Dvs H (xs ++ ys) (ds ++ es)
  | _, _, _, _, .nil, s => s
  | _, _, _, _, .cons r t, s => .cons r (Dvs.append t s)
theorem Dvs.ints {H : Hp} : ∀ (ns : List Int), Dvs H (ns.map V.int) (ns.map PyData.int)
  | [] => .nil
  | n :: ns => .cons (.int n) (Dvs.ints ns)
theorem Dv.int_inv {H : Hp} {v : V} {i : Int} (h : Dv H v (.int i)) : v = .int i := by cases h; rfl
theorem Dv.str_inv {H : Hp} {v : V} {i : Str} (h : Dv H v (.str i)) : v = .str i := by cases h; rfl
def GotD (H : Hp) (d : PyData) (Q : VK) : Prop := match d with
  | .none => Q .non H
  | .bool b => Q (.bl b) H
  | .int i => Q (.int i) H
  | .str x => Q (.str x) H
  | d => ∀ v, Dv H v d → Q v H
theorem GotD.use {H : Hp} {d : PyData} {Q : VK} (g : GotD H d Q) {v : V} (h : Dv H v d) : Q v H := by
  cases h with
  | non => exact g
  | bl b => exact g
  | int i => exact g
  | str x => exact g
  | tup h r => exact g _ (.tup h r)
  | lst h r => exact g _ (.lst h r)
  | dct h r => exact g _ (.dct h r)
theorem atI_map {H : Hp} {xs : List V} {ds : List PyData} {i : Int} {d : PyData} (r : Dvs H xs ds) (h : atI ds i = some d) : ∃ x, atI xs i = some x ∧ Dv H x d := by
  unfold atI at h ⊢
  rw [r.length]
  cases e : ixN ds.length i with
  | none => rw [e] at h; simp at h
  | some j =>
    rw [e] at h
    have h' : ds[j]? = some d := by simpa using h
    obtain ⟨x, h1, h2⟩ := r.get h'
    exact ⟨x, by simpa using h1, h2⟩
def isSeq (H : Hp) (v : V) (ds : List PyData) : Prop := Dv H v (.tuple ds) ∨ Dv H v (.list ds)
def rIxD : R2 := fun x y H Q => ∃ ds i d, y = .int i ∧ isSeq H x ds ∧ atI ds i = some d ∧ GotD H d Q
theorem rIxD_ok {K : PySem.W.Frag} {x y : V} {H : Hp} {Q : VK} (h : rIxD x y H Q) : rIx K x y H Q := by
  obtain ⟨ds, i, d, rfl, hs, hi, g⟩ := h
  rcases hs with hs | hs
  · cases hs with
    | tup h r =>
      obtain ⟨v, h1, h2⟩ := atI_map r hi
      exact .inr (.inl ⟨_, _, i, v, rfl, rfl, .of h, h1, g.use h2⟩)
  · cases hs with
    | lst h r =>
      obtain ⟨v, h1, h2⟩ := atI_map r hi
      exact .inl ⟨_, _, i, v, rfl, rfl, .inl h, h1, g.use h2⟩
section
variable {X : Cx}
def rIxA : R2 := fun x y H Q => rIxD x y H Q ∨ rIxS x y H Q
theorem ix_A : IxR X rIxA := fun value slice pins s σ H x y v u Q I r1 r2 h => ix_seq value slice pins s σ H x y v u Q I r1 r2 (h.elim rIxD_ok fun z => .inr (.inr z))
def rLenA : List V → Hp → VK → Prop := fun xs H Q => (∃ v ds, xs = [v] ∧ isSeq H v ds ∧ Q (.int (ds.length : Nat)) H) ∨ ∃ z, xs = [.str z] ∧ z.length ≤ sizeLine ∧ Q (.int (z.length : Nat)) H
theorem call_lenA : CallR X (.builtin "len") rLenA := fun pins s σ H xs us Q I r h => by
  rcases h with ⟨v, ds, rfl, hs, q⟩ | h
  · rcases hs with hs | hs
    · cases hs with
      | tup h t => exact call_len_seq pins s σ H _ us Q I r ⟨_, _, rfl, .inr (.of h), by rw [t.length]; exact q⟩
    · cases hs with
      | lst h t => exact call_len_seq pins s σ H _ us Q I r ⟨_, _, rfl, .inl (.inl h), by rw [t.length]; exact q⟩
  · exact call_len_str pins s σ H _ us Q I r h
def tyN : PyData → String
  | .none => "NoneType" | .bool _ => "bool" | .int _ => "int" | .str _ => "str" | .list _ => "list" | .tuple _ => "tuple" | .dict _ => "dict"
def kitBi (t n : String) : Option Bool := if ((Value.type t) == (Value.type n)) = true then some true else if PySem.W.kitMeta n = true then (PySem.fastBuiltinMro t).map (·.contains (.type n)) else none
def isiN (t n : String) : Bool := t == n || (t == "bool" && n == "int")
def rEqA (K : PySem.W.Frag) (f : Bool → Bool) : R2 := fun x y H Q => (scal x y = true ∧ Q (.bl (f (decide (x = y)))) H) ∨ ∃ d e, Dv H x d ∧ Dv H y e ∧ d.canLay0 = true ∧ e.canLay0 = true ∧ d.depth ≤ 8 ∧ Q (.bl (f (PyData.eqv d e))) H
theorem op_eqA (hu : X.A.units + 8 < cLine) : OpR X (compareOp .Eq) (rEqA X.K id) := fun pins s σ H x y v u Q I rx ry h => by
  rcases h with h | ⟨d, e, h1, h2, h3, h4, h5, h6⟩
  · exact op_eq pins s σ H x y v u Q I rx ry h
  · exact op_eqD hu pins s σ H x y v u Q I rx ry ⟨d, e, h1.has h3, h2.has h4, h3, h4, h5, h6⟩
theorem op_neA (hu : X.A.units + 8 < cLine) : OpR X (compareOp .NotEq) (rEqA X.K not) := fun pins s σ H x y v u Q I rx ry h => by
  rcases h with h | ⟨d, e, h1, h2, h3, h4, h5, h6⟩
  · exact op_ne pins s σ H x y v u Q I rx ry h
  · exact op_neD hu pins s σ H x y v u Q I rx ry ⟨d, e, h1.has h3, h2.has h4, h3, h4, h5, h6⟩
variable {es : List Expr} {t : TA} {pos : Pos}
def TupP (xs : List V) (H1 : Hp) (Q : VK) : Prop := xs.length ≤ sizeLine ∧ ∃ ds, Dvs H1 xs ds ∧ ∀ p H2, Same H1 H2 → H1 p = none → H2 p = some (.tup xs) → Dv H2 (.ref p) (.tuple ds) → Q (.ref p) H2
def LstP (xs : List V) (H1 : Hp) (Q : VK) : Prop := xs.length ≤ sizeLine ∧ ∃ ds, Dvs H1 xs ds ∧ ∀ p H2, Same H1 H2 → H1 p = none → H2 p = some (.lst xs) → Dvs H2 xs ds → Dv H2 (.ref p) (.list ds) → Q (.ref p) H2
def tTupD (t : TA) : TE := fun σ H Q => t σ H fun xs H1 => TupP xs H1 Q
theorem pe_tupD {x1} (h : PA X es t) : PE X (.Tuple es x1 pos) (tTupD t) := PE.weak (pe_tup h.m) fun σ H Q q => ⟨_, q, fun xs H1 ⟨hl, ds, hd, k⟩ => ⟨hl, fun p hp => by
  have sm : Same H1 (upd H1 p (.tup xs)) := fun b u e => by rw [upd_ne (ne_of_none e hp)]; exact e
  exact k p _ sm hp upd_same (.tup upd_same (hd.keeps sm))⟩⟩
def tLstD (t : TA) : TE := fun σ H Q => t σ H fun xs H1 => LstP xs H1 Q
theorem pe_lstD (h : PA X es t) : PE X (.List es pos) (tLstD t) := PE.weak (pe_lst h.m) fun σ H Q q => ⟨_, q, fun xs H1 ⟨hl, ds, hd, k⟩ => ⟨hl, fun p hp => by
  have sm : Same H1 (upd H1 p (.lst xs)) := fun b u e => by rw [upd_ne (ne_of_none e hp)]; exact e
  exact k p _ sm hp upd_same (hd.keeps sm) (.lst (.of upd_same) (hd.keeps sm))⟩⟩
variable {st : Stmt} {rest : List Stmt}
def tCut (t u : TS) : TS := fun D σ H => ∃ R : St → Hp → Prop, t { D with nx := R } σ H ∧ ∀ σ' H', R σ' H' → u D σ' H'
theorem pss_cut {t u : TS} (h1 : PS X st t) (h2 : PSs X rest u) : PSs X (st :: rest) (tCut t u) := by
  intro pins s σ H D I ⟨R, h, k⟩
  refine wpAny_execs_cons (thn (h1 pins s σ H { D with nx := R } I h) fun f s1 q => ?_)
  cases f with
  | next =>
    obtain ⟨σ', H', I', q⟩ := q
    exact h2 pins s1 σ' H' D I' (k _ _ q)
  | ret v => exact q
  | brk => exact q
  | cont => exact q
end
section
variable {σ : St} {H : Hp} {Q : VK} {D : Ends} {K : PySem.W.Frag}
theorem r_cutS {t u : TS} (h : t { D with nx := u D } σ H) : tCut t u D σ H := ⟨u D, h, fun _ _ z => z⟩
theorem r_tupD {t : TA} (h : t σ H fun xs H1 => TupP xs H1 Q) : tTupD t σ H Q := h
theorem r_tupE {xs : List V} {ds : List PyData} (hl : xs.length ≤ sizeLine) (hd : Dvs H xs ds) (k : ∀ v H2, Same H H2 → Dv H2 v (.tuple ds) → Q v H2) : TupP xs H Q := ⟨hl, ds, hd, fun p H2 s _ _ d => k (.ref p) H2 s d⟩
theorem r_lstD {t : TA} (h : t σ H fun xs H1 => LstP xs H1 Q) : tLstD t σ H Q := h
theorem r_eqS {f : Bool → Bool} {x y : V} (e : scal x y = true) (h : Q (.bl (f (decide (x = y)))) H) : rEqA K f x y H Q := .inl ⟨e, h⟩
theorem r_eqD {f : Bool → Bool} {x y : V} {d e : PyData} (h1 : Dv H x d) (h2 : Dv H y e) (h3 : d.canLay0 = true) (h4 : e.canLay0 = true) (h5 : d.depth ≤ 8) (h : Q (.bl (f (PyData.eqv d e))) H) : rEqA K f x y H Q := .inr ⟨d, e, h1, h2, h3, h4, h5, h⟩
theorem r_ixT {x : V} {ds : List PyData} {i : Int} {d : PyData} (hs : isSeq H x ds) (hi : atI ds i = some d) (g : GotD H d Q) : rIxA x (.int i) H Q := .inl ⟨ds, i, d, rfl, hs, hi, g⟩
theorem r_lenD {v : V} {ds : List PyData} (hs : isSeq H v ds) (h : Q (.int (ds.length : Nat)) H) : rLenA [v] H Q := .inl ⟨v, ds, rfl, hs, h⟩
theorem got_int {i : Int} (h : Q (.int i) H) : GotD H (.int i) Q := h
theorem got_str {i : Str} (h : Q (.str i) H) : GotD H (.str i) Q := h
theorem got_tup {ds : List PyData} (h : ∀ v, Dv H v (.tuple ds) → Q v H) : GotD H (.tuple ds) Q := h
theorem if_bl {b : Bool} {A B : Prop} (h1 : b = true → A) (h2 : b = false → B) : if b = true then A else B := by
  cases b
  · exact iteF (h2 rfl)
  · exact iteT (h1 rfl)
end
theorem Room.hu8 {k : Nat} {A : Around} (r : Room k A) : A.units + 8 < cLine := Nat.lt_of_le_of_lt (by omega) r.units
end L2

namespace L2
open PySem PySem.Spec PyProof.Rows
theorem same_upd {H : Hp} {t : Addr} {o : HO} (h : H t = none) : Same H (upd H t o) := fun b u e => by rw [upd_ne (ne_of_none e h)]; exact e
section
variable {σ : St} {H : Hp} {Q : VK} {D : Ends} {K : PySem.W.Frag}
end
end L2
namespace L2
open PySem PySem.Spec PyProof.Rows
end L2
namespace L2
open PySem PySem.Spec PyProof.Rows
def isInt : PyData → Bool | .int _ => true | .bool _ => true | _ => false
def isBool : PyData → Bool | .bool _ => true | _ => false
def isStr : PyData → Bool | .str _ => true | _ => false
def isLst : PyData → Bool | .list _ => true | _ => false
def isTup : PyData → Bool | .tuple _ => true | _ => false
def isDct : PyData → Bool | .dict _ => true | _ => false
section
variable {K : PySem.W.Frag} {H : Hp} {v : V} {d : PyData} {Q : VK}
def Ins (H : Hp) (v : V) (C : Addr) (fs : List (Str × V)) : Prop := ∃ p dx, v = .ref p ∧ H p = some (.ins C dx fs)
end
def look (f : Str) : List (Str × V) → Option V
  | [] => none
  | (g, v) :: r => if f = g then some v else look f r
end L2
namespace L2
open PySem PySem.Spec PyProof.Rows
section
variable {X : Cx}
def rIxK (K : PySem.W.Frag) : R2 := fun x y H Q => rIxA x y H Q ∨ rIxL K x y H Q
theorem ix_K : IxR X (rIxK X.K) := fun value slice pins s σ H x y v u Q I r1 r2 h => h.elim (ix_A value slice pins s σ H x y v u Q I r1 r2) (ix_list value slice pins s σ H x y v u Q I r1 r2)
def rLenK (K : PySem.W.Frag) : List V → Hp → VK → Prop := fun xs H Q => rLenA xs H Q ∨ ∃ p ys, xs = [.ref p] ∧ SqL K H p ys ∧ Q (.int ys.length) H
theorem call_lenK : CallR X (.builtin "len") (rLenK X.K) := fun pins s σ H xs us Q I r h => by
  rcases h with h | ⟨p, ys, e, hl, q⟩
  · exact call_lenA pins s σ H xs us Q I r h
  · exact call_len_seq pins s σ H xs us Q I r ⟨p, ys, e, .inl hl, q⟩
end
section
variable {σ : St} {H : Hp} {Q : VK} {D : Ends} {K : PySem.W.Frag}
theorem r_ixD {x : V} {ds : List PyData} {i : Int} {d : PyData} (hs : isSeq H x ds) (hi : atI ds i = some d) (g : GotD H d Q) : rIxK K x (.int i) H Q := .inl (r_ixT hs hi g)
theorem r_ixL {p : Addr} {xs : List V} {i : Int} {v : V} (hs : SqL K H p xs) (hi : atI xs i = some v) (g : Q v H) : rIxK K (.ref p) (.int i) H Q := .inr ⟨p, xs, i, v, rfl, rfl, hs, hi, g⟩
theorem r_lenK {v : V} {ds : List PyData} (hs : isSeq H v ds) (h : Q (.int (ds.length : Nat)) H) : rLenK K [v] H Q := .inl (r_lenD hs h)
theorem r_lenL {p : Addr} {xs : List V} (hs : SqL K H p xs) (h : Q (.int xs.length) H) : rLenK K [.ref p] H Q := .inr ⟨p, xs, rfl, hs, h⟩
def spInit (C : Addr) (pre : List V → Prop) (fs : List V → List (Str × V)) : Sp := fun vs H Q _ => ∃ p dx args, vs = .ref p :: args ∧ pre args ∧ H p = some (.ins C dx []) ∧ Q .non (upd H p (.ins C dx (fs args)))
def rMin : List V → Hp → VK → Prop := fun xs H Q => ∃ i j, xs = [.int i, .int j] ∧ Q (.int (if j < i then j else i)) H
theorem r_is {R : Prop} (h : R) : V.non = V.non ∧ R := ⟨rfl, h⟩
end
def Bg (i : Int) : Prop := i.natAbs < 2 ^ 2000
theorem bg {i : Int} (h1 : -(10 ^ 200) < i) (h2 : i < 10 ^ 200) : i.natAbs < 2 ^ 2000 := by
  have : (10 : Nat) ^ 200 < 2 ^ 2000 := by decide +kernel
  have h3 : i.natAbs < 10 ^ 200 := by
    have e : ((10 : Nat) ^ 200 : Nat) = ((10 : Int) ^ 200).toNat := by decide +kernel
    rw [e]
    generalize (10 : Int) ^ 200 = m at h1 h2 ⊢
    omega
  exact Nat.lt_trans h3 this
theorem cmulB {i j : Int} (h1 : -(10 ^ 200) < i ∧ i < 10 ^ 200) (h2 : -(10 ^ 200) < j ∧ j < 10 ^ 200) : CMulB i j := ⟨bg h1.1 h1.2, bg h2.1 h2.2⟩
theorem cdivB {i j : Int} (h1 : 0 < j) (h2 : j < 10 ^ 200) : CDivB i j := ⟨h1, bg (Int.lt_trans (by decide) h1) h2⟩
def cell (ns : List Int) (k : Nat) : Int := ns.getD k 0
def spCell (K : PySem.W.Frag) : Sp := fun vs H Q _ => ∃ l ns k, vs = [.ref l, .int k] ∧ SqL K H l (ns.map V.int) ∧ 0 ≤ k ∧ Q (.int (cell ns k.toNat)) H
theorem u_cell {K : PySem.W.Frag} {H : Hp} {Q : VK} {E : XK} {l : Addr} {ns : List Int} {k : Int} (h : SqL K H l (ns.map V.int)) (hk : 0 ≤ k) (q : Q (.int (cell ns k.toNat)) H) : spCell K [.ref l, .int k] H Q E := ⟨l, ns, k, rfl, h, hk, q⟩
theorem cell_at {ns : List Int} {k : Int} (h0 : 0 ≤ k) (h : k < (ns.map V.int).length) : atI (ns.map V.int) k = some (.int (cell ns k.toNat)) := by
  obtain ⟨n, rfl⟩ := Int.eq_ofNat_of_zero_le h0
  refine atI_nat ?_
  have hn : n < ns.length := by simpa using h
  simp [cell, hn, List.getD_eq_getElem?_getD]
theorem cell_no {ns : List Int} {k : Int} (h0 : 0 ≤ k) (h : ¬ k < (ns.map V.int).length) : cell ns k.toNat = 0 := by
  have : ns.length ≤ k.toNat := by simp at h; omega
  simp [cell, List.getD_eq_getElem?_getD, this]
end L2
namespace L2
open PySem PySem.Spec PyProof.Rows
def withD (sp : Sp) (vs : List V) (H : Hp) (Q : VK) (E : XK) : Prop := ∃ ws, vs = ws ∧ sp ws H Q E
theorem withD_eq (sp : Sp) (vs : List V) (H : Hp) (Q : VK) (E : XK) : withD sp vs H Q E = sp vs H Q E := propext ⟨fun ⟨_, e, h⟩ => e ▸ h, fun h => ⟨vs, rfl, h⟩⟩
def tCallN (sp : Sp) (dvs : List V) (E : XK) (t : TA) : TE := fun σ H Q => t σ H fun vs H1 => withD sp (vs ++ dvs) H1 Q E
theorem tCallN_eq (sp : Sp) (dvs : List V) (E : XK) (t : TA) : tCallN sp dvs E t = tCall sp dvs E t := by
  funext σ H Q; unfold tCallN tCall; congr 1; funext vs H1; exact withD_eq _ _ _ _ _
def tMethN (C : Addr) (m : Str) (sp : Sp) (dvs : List V) (E : XK) (ta : TE) (t : TA) : TE := fun σ H Q => ta σ H fun x H1 => ∃ a dx fs, x = .ref a ∧ H1 a = some (.ins C dx fs) ∧ fs.lookup m = none ∧
  t σ H1 fun vs H2 => withD sp (x :: (vs ++ dvs)) H2 Q E
def MakeP (C : Addr) (sp : Sp) (vs : List V) (H1 : Hp) (Q : VK) (E : XK) : Prop := ∃ ws, vs = ws ∧ ∀ x dx, H1 x = none → H1 dx = none → dx ≠ x →
  sp (.ref x :: ws) (upd (upd H1 dx (.own x)) x (.ins C dx [])) (fun v H2 => v = .non ∧ Q (.ref x) H2) E
def tMakeN (C : Addr) (sp : Sp) (dvs : List V) (E : XK) (t : TA) : TE := fun σ H Q => t σ H fun vs H1 => MakeP C sp (vs ++ dvs) H1 Q E
section
variable {X : Cx} {k : Nat} {f C : Addr} {ps : List Str} {sp : Sp} {dvs : List V} {x m : Str} {p pos apos : Pos} {e o : Expr} {es : List Expr} {ta : TE} {t : TA}
theorem pn_call (c : Cal X.prog X.w X.K X.mg X.base k f ps dvs sp) (hr : Room k X.A) (hg : Gl X x) (hm : X.mg x = some (.ref f)) (hk : PySem.W.keepIn X.K (.ref f) = true)
    (ha : PA X (e :: es) t) (hdb : (x == ("__debug__" : Str)) = false := by decide) (he : starEach (e :: es) X.env = (false, eval e X.env) :: starEach es X.env := by rfl) (hpl : (backTo pos (starEach es X.env)).any (·.1) = false := by rfl) :
    PE X (.Call (.Name x p) (e :: es) [] pos) (tCallN sp dvs E0 t) := by rw [tCallN_eq]; exact pc_call c hr hg hm hk ha hdb he hpl
end
section
variable {σ : St} {H : Hp} {Q : VK} {D : Ends} {K : PySem.W.Frag}
theorem r_callN {sp : Sp} {dvs : List V} {E : XK} {t : TA} (h : t σ H fun vs H1 => withD sp (vs ++ dvs) H1 Q E) : tCallN sp dvs E t σ H Q := h
theorem r_wd {sp : Sp} {vs ws : List V} {E : XK} (e : vs = ws) (h : sp ws H Q E) : withD sp vs H Q E := ⟨ws, e, h⟩
theorem r_truB {b : Bool} {R : Bool → Prop} (h : R b) : ∃ k, TruV K (.bl b) H k ∧ R k := ⟨b, rfl, h⟩
end
end L2

namespace L2
open PySem PySem.Spec PyProof.Rows
theorem len64 {n : Nat} (h : Nat.ble n 64 = true) : n ≤ sizeLine := Nat.le_trans (Nat.le_of_ble_eq_true h) (by decide)
end L2

namespace L2
open PySem PySem.Spec PyProof.Rows
def RetD (H : Hp) (Q : VK) (d : PyData) : Prop := ∀ v H', Same H H' → Dv H' v d → Q v H'
end L2

namespace L2
open PySem PySem.Spec PyProof.Rows
section
variable {X : Cx} {st : Stmt} {rest : List Stmt}
def tCutM (t u : TS) : TS := tCut t u
theorem pss_cutM {t u : TS} (h1 : PS X st t) (h2 : PSs X rest u) : PSs X (st :: rest) (tCutM t u) := pss_cut h1 h2
end
section
variable {σ : St} {H : Hp} {Q : VK} {D : Ends} {K : PySem.W.Frag}
theorem r_cutM {t u : TS} (R : St → Hp → Prop) (h : t { D with nx := R } σ H) (k : ∀ σ' H', R σ' H' → u D σ' H') : tCutM t u D σ H := ⟨R, h, k⟩
def ForL (K : PySem.W.Frag) (x : V) (g : TG) (tb : TS) (D : Ends) (σ : St) (H1 : Hp) : Prop := ∃ a, x = .ref a ∧ (∃ xs, SqL K H1 a xs) ∧ ∃ W : Nat → Nat → St → Hp → Prop, (∃ m, W 0 m σ H1) ∧ ∀ i m σ H, W i m σ H →
      ((Itl K a).stop i H ∧ D.nx σ H) ∨ ((Itl K a).go i H ∧ ∃ N : St → Hp → Prop, (∀ σ' H', N σ' H' → ∃ m', m' < m ∧ W (i + 1) m' σ' H') ∧ ∀ x H', (Itl K a).yld i H x H' → g x σ H' fun σ2 H2 => tb { D with nx := N, ct := N, bk := D.nx } σ2 H2)
theorem r_for {tl : TE} {g : TG} {tb : TS} (h : tl σ H fun x H1 => ForL K x g tb D σ H1) : tFor (iList K tl) g tb D σ H := h
theorem forL {a : Addr} {xs : List V} {g : TG} {tb : TS} (hl : SqL K H a xs) (Pv : Nat → St → Hp → Prop) (h0 : Pv 0 σ H) (hk : ∀ i σ H, i ≤ xs.length → Pv i σ H → SqL K H a xs)
    (hs : ∀ i x σ H, xs[i]? = some x → Pv i σ H → g x σ H fun σ2 H2 => tb { D with nx := Pv (i + 1), ct := Pv (i + 1), bk := D.nx } σ2 H2) (hd : ∀ σ H, Pv xs.length σ H → D.nx σ H) : ForL K (.ref a) g tb D σ H :=
  ⟨a, rfl, ⟨xs, hl⟩, for_list Pv h0 hk hs hd⟩
def ForR (lo : Int) (n : Nat) (g : TG) (tb : TS) (D : Ends) (σ : St) (H1 : Hp) : Prop := ∃ W : Nat → Nat → St → Hp → Prop, (∃ m, W 0 m σ H1) ∧ ∀ i m σ H, W i m σ H →
      ((Itr lo n).stop i H ∧ D.nx σ H) ∨ ((Itr lo n).go i H ∧ ∃ N : St → Hp → Prop, (∀ σ' H', N σ' H' → ∃ m', m' < m ∧ W (i + 1) m' σ' H') ∧ ∀ x H', (Itr lo n).yld i H x H' → g x σ H' fun σ2 H2 => tb { D with nx := N, ct := N, bk := D.nx } σ2 H2)
theorem r_forR1 {ta : TA} {g : TG} {tb : TS} (h : ta σ H fun vs H1 => ∃ j : Int, vs = [.int j] ∧ -(2 ^ 62) ≤ j ∧ j < 2 ^ 62 ∧ ForR 0 j.toNat g tb D σ H1) : tFor (iRng1 ta) g tb D σ H := h
theorem r_rng1 {j : Int} {R : Int → Prop} (h1 : -(2 ^ 62) ≤ j) (h2 : j < 2 ^ 62) (h : R j) : ∃ i : Int, [V.int j] = [.int i] ∧ -(2 ^ 62) ≤ i ∧ i < 2 ^ 62 ∧ R i := ⟨j, rfl, h1, h2, h⟩
end
end L2
namespace L2
open PySem PySem.Spec PyProof.Rows
end L2
namespace L2
open PySem PySem.Spec PyProof.Rows
section
variable {X : Cx}
def rMinP : List V → Hp → VK → Prop := fun xs H Q => ∃ i j, xs = [.int i, .int j] ∧ ∀ k, (k = i ∨ k = j) → k ≤ i → k ≤ j → Q (.int k) H
theorem call_minP (hc : X.calm = true) : CallR X (.builtin "min") rMinP := fun pins s σ H xs us Q I r ⟨i, j, e, h⟩ => call_min2 hc pins s σ H xs us Q I r ⟨i, j, e, by
  split
  · exact h _ (.inr rfl) (by omega) (by omega)
  · exact h _ (.inl rfl) (by omega) (by omega)⟩
def rMaxP : List V → Hp → VK → Prop := fun xs H Q => ∃ i j, xs = [.int i, .int j] ∧ ∀ k, (k = i ∨ k = j) → i ≤ k → j ≤ k → Q (.int k) H
def rModP : R2 := fun x y H Q => ∃ i j, x = .int i ∧ y = .int j ∧ 0 < j ∧ (0 ≤ i % j → i % j < j → Q (.int (i % j)) H)
theorem op_modP : OpR X (binaryOp .Mod) rModP := fun pins s σ H x y v u Q I rx ry ⟨i, j, e1, e2, hj, h⟩ => op_mod pins s σ H x y v u Q I rx ry ⟨i, j, e1, e2, hj, h (Int.emod_nonneg _ (by omega)) (Int.emod_lt_of_pos _ hj)⟩
end
section
variable {σ : St} {H : Hp} {Q : VK} {D : Ends} {K : PySem.W.Frag}
theorem r_minP {i j : Int} (h : ∀ k, (k = i ∨ k = j) → k ≤ i → k ≤ j → Q (.int k) H) : rMinP [.int i, .int j] H Q := ⟨i, j, rfl, h⟩
theorem r_modP {i j : Int} (hj : 0 < j) (h : 0 ≤ i % j → i % j < j → Q (.int (i % j)) H) : rModP (.int i) (.int j) H Q := ⟨i, j, rfl, rfl, hj, h⟩
end
end L2
namespace L2
open PySem PySem.Spec PyProof.Rows
end L2
namespace L2
open PySem PySem.Spec PyProof.Rows
section
variable {σ : St} {H : Hp} {Q : VK} {D : Ends} {K : PySem.W.Frag}
def WTurn (Pv : Nat → St → Hp → Prop) (m : Nat) (tb : TS) (D : Ends) (σ : St) (H1 : Hp) : Prop := ∃ N : St → Hp → Prop, (∀ σ' H', N σ' H' → ∃ m', m' < m ∧ Pv m' σ' H') ∧ tb { D with nx := N, ct := N, bk := D.nx } σ H1
theorem r_turn {Pv : Nat → St → Hp → Prop} {m : Nat} {tb : TS} (h : tb { D with nx := fun σ' H' => ∃ m', m' < m ∧ Pv m' σ' H', ct := fun σ' H' => ∃ m', m' < m ∧ Pv m' σ' H', bk := D.nx } σ H) : WTurn Pv m tb D σ H := ⟨_, fun _ _ h => h, h⟩
theorem r_while {c : TT} {tb : TS} (Pv : Nat → St → Hp → Prop) (h0 : ∃ m, Pv m σ H) (hs : ∀ m σ H, Pv m σ H → c σ H fun b H1 => if b = true then WTurn Pv m tb D σ H1 else D.nx σ H1) : tWhile c tb D σ H := ⟨Pv, h0, hs⟩
end
end L2
namespace L2
end L2

namespace L2
open PySem PySem.Spec PyProof.Rows
section
variable {X : Cx}
def rIsB (f : Bool → Bool) : R2 := fun x y H Q => ∃ b c, x = .bl b ∧ y = .bl c ∧ Q (.bl (f (b == c))) H
def rStrI : List V → Hp → VK → Prop := fun xs H Q => ∃ i, xs = [.int i] ∧ i.natAbs.log2 < 1920 ∧ Q (.str (toString i)) H
end
section
variable {σ : St} {H : Hp} {Q : VK} {D : Ends} {K : PySem.W.Frag}
end
end L2
namespace L2
open PySem PySem.Spec PyProof.Rows
theorem r_powE {H : Hp} {Q : VK} {i j p : Int} (c : CPow i j) (e : i ^ j.toNat = p) (h : Q (.int p) H) : rI CPow (fun i j => .int (i ^ j.toNat)) (.int i) (.int j) H Q := ⟨i, j, rfl, rfl, c, by show Q (.int (i ^ j.toNat)) H; rw [e]; exact h⟩
end L2
namespace L2
open PySem PySem.Spec PyProof.Rows
section
variable {X : Cx} {e : Expr}
def tOrE (t u : TE) : TE := fun σ H Q => t σ H Q ∨ u σ H Q
end
section
variable {σ : St} {H : Hp} {Q : VK} {D : Ends} {K : PySem.W.Frag}
def Unp2 (K : PySem.W.Frag) (x : V) (i j : Nat) (D : Ends) (σ : St) (H : Hp) : Prop := gTup K 2 (gCons (gName i) (gCons (gName j) gNil)) x σ H D.nx
end
end L2
namespace L2
end L2

namespace L2
open PySem PySem.Spec PyProof.Rows PySem.W
structure Swo (lt : Nat → Nat → Bool) : Prop where
  irr : ∀ a, lt a a = false
  asy : ∀ a b, lt a b = true → lt b a = false
  ntr : ∀ a b c, lt a b = false → lt b c = false → lt a c = false
section
variable {lt : Nat → Nat → Bool} {n : Nat} {S : Shared → Prop} {cmp : Nat → Nat → (Bool → Shared → Prop) → Shared → Prop}
def Up (lt : Nat → Nat → Bool) (p : Array Nat) (k : Nat) : Prop := ∀ i j, i < j → j < k → lt (p.getD j 0) (p.getD i 0) = false
def Down (lt : Nat → Nat → Bool) (p : Array Nat) (k : Nat) : Prop := ∀ i j, i < j → j < k → lt (p.getD i 0) (p.getD j 0) = false
def Alike (lt : Nat → Nat → Bool) (p : Array Nat) (a b : Nat) : Prop := ∀ i j, a ≤ i → i < b → a ≤ j → j < b → lt (p.getD i 0) (p.getD j 0) = false
structure Ix (n : Nat) (p : Array Nat) : Prop where
  sz : p.size = n
  pm : p.toList.Perm (List.range n)
theorem Ix.low {p : Array Nat} (h : Ix n p) {i : Nat} (hi : i < n) : p.getD i 0 < n := by
  have hi' : i < p.size := by rw [h.sz]; exact hi
  have e : p.getD i 0 = p[i] := by simp [Array.getD, hi']
  rw [e]
  have : p[i] ∈ p.toList := by simp
  exact List.mem_range.mp (h.pm.mem_iff.mp this)
theorem Ix.perm {p q : Array Nat} (h : Ix n p) (hq : q.Perm p) : Ix n q := ⟨hq.size_eq.trans h.sz, (Array.perm_iff_toList_perm.mp hq).trans h.pm⟩
theorem getD_rev {p : Array Nat} {i j : Nat} (hj : j ≤ p.size) (k : Nat) : (kas_rev p i j).getD k 0 = if i ≤ k ∧ k < j then p.getD (i + j - 1 - k) 0 else p.getD k 0 := by
  unfold kas_rev
  rw [Array.getD_eq_getD_getElem?, getElem?_mirror_all hj k]
  by_cases h : i ≤ k ∧ k < j
  · rw [if_pos h, if_pos h, Array.getD_eq_getD_getElem?]
  · rw [if_neg h, if_neg h, Array.getD_eq_getD_getElem?]
theorem ix_rev {p : Array Nat} (h : Ix n p) (i j : Nat) : Ix n (kas_rev p i j) := h.perm (mirror_perm _ _ _ _)
theorem getD_bub {p : Array Nat} {k d : Nat} (hk : k < p.size) (hd : d ≤ k) (i : Nat) : (bubble p k d).getD i 0 = if i = k - d then p.getD k 0 else if k - d < i ∧ i ≤ k then p.getD (i - 1) 0 else p.getD i 0 := by
  rw [Array.getD_eq_getD_getElem?, getElem?_bubble hk d hd i]
  by_cases h : i = k - d
  · rw [if_pos h, if_pos h, Array.getD_eq_getD_getElem?]
  · rw [if_neg h, if_neg h]
    by_cases h2 : k - d < i ∧ i ≤ k
    · rw [if_pos h2, if_pos h2, Array.getD_eq_getD_getElem?]
    · rw [if_neg h2, if_neg h2, Array.getD_eq_getD_getElem?]
def Asks (n : Nat) (lt : Nat → Nat → Bool) (S : Shared → Prop) (cmp : Nat → Nat → (Bool → Shared → Prop) → Shared → Prop) : Prop :=
  ∀ i j C s, i < n → j < n → S s → (∀ s', S s' → C (lt i j) s') → cmp i j C s
variable (w : Swo lt) (ha : Asks n lt S cmp)
include w ha
theorem asc_ok {p : Array Nat} (hp : Ix n p) {Q : Nat → Shared → Prop} : ∀ (f k : Nat), 1 ≤ k → k + f ≤ n → Up lt p k → (∀ m s, S s → k ≤ m → m ≤ k + f → Up lt p m → (m = k + f ∨ (m < k + f ∧ lt (p.getD m 0) (p.getD (m - 1) 0) = true)) → Q m s) → ∀ s, S s → (kas_asc p f k).kasWp cmp Q s
  | 0, k, _, _, hu, hq, s, hs => hq k s hs (Nat.le_refl _) (Nat.le_refl _) hu (.inl rfl)
  | f + 1, k, h1, hf, hu, hq, s, hs => by
    refine ha _ _ _ _ (hp.low (by omega)) (hp.low (by omega)) hs fun s' hs' => ?_
    cases e : lt (p.getD k 0) (p.getD (k - 1) 0) with
    | true => exact hq k s' hs' (Nat.le_refl _) (by omega) hu (.inr ⟨by omega, e⟩)
    | false =>
      refine asc_ok hp f (k + 1) (by omega) (by omega) (fun i j hij hj => ?_) (fun m s hs a b c d => hq m s hs (by omega) (by omega) c (by rcases d with d | d; exact .inl (by omega); exact .inr ⟨by omega, d.2⟩)) s' hs'
      by_cases hjk : j < k
      · exact hu i j hij hjk
      · have : j = k := by omega
        subst this
        by_cases hi : i = j - 1
        · rw [hi]; exact e
        · exact w.ntr _ _ _ e (hu i (j - 1) (by omega) (by omega))
theorem desc_ok {Q : Array Nat × Nat × Nat → Shared → Prop} : ∀ (f : Nat) (p : Array Nat) (k q : Nat), Ix n p → k + f ≤ n → q + 1 ≤ k → Down lt p k → Alike lt p (k - (q + 1)) k →
    (∀ p' k' q' s, S s → Ix n p' → k ≤ k' → k' ≤ k + f → q' + 1 ≤ k' → Down lt p' k' → Alike lt p' (k' - (q' + 1)) k' → Q (p', k', q') s) → ∀ s, S s → (kas_desc f p k q).kasWp cmp Q s
  | 0, p, k, q, hp, _, h1, hd, hl, hq, s, hs => hq p k q s hs hp (Nat.le_refl _) (Nat.le_refl _) h1 hd hl
  | f + 1, p, k, q, hp, hf, h1, hd, hl, hq, s, hs => by
    refine ha _ _ _ _ (hp.low (by omega)) (hp.low (by omega)) hs fun s' hs' => ?_
    cases e : lt (p.getD k 0) (p.getD (k - 1) 0) with
    | true =>
      have hbelow : ∀ i, i < k → lt (p.getD i 0) (p.getD k 0) = false := fun i hi => by
        by_cases h : i = k - 1
        · rw [h]; exact w.asy _ _ e
        · exact w.ntr _ _ _ (hd i (k - 1) (by omega) (by omega)) (w.asy _ _ e)
      by_cases h0 : q > 0
      · simp only [if_true, if_pos h0]
        have hk : k ≤ p.size := by rw [hp.sz]; omega
        refine desc_ok f _ (k + 1) 0 (ix_rev hp _ _) (by omega) (by omega) (fun i j hij hj => ?_) (fun i j a b c d => ?_) (fun p' k' q' s hs a b c d e f => hq p' k' q' s hs a (by omega) (by omega) d e f) s' hs'
        · rw [getD_rev hk, getD_rev hk]
          by_cases hjk : j = k
          · subst hjk
            rw [if_neg (show ¬ (j - (q + 1) ≤ j ∧ j < j) by omega)]
            by_cases hi : j - (q + 1) ≤ i ∧ i < j
            · rw [if_pos hi]; exact hbelow _ (by omega)
            · rw [if_neg hi]; exact hbelow _ hij
          · by_cases hi : k - (q + 1) ≤ i ∧ i < k
            · rw [if_pos hi, if_pos (show k - (q + 1) ≤ j ∧ j < k by omega)]
              exact hl _ _ (by omega) (by omega) (by omega) (by omega)
            · rw [if_neg hi]
              by_cases hj2 : k - (q + 1) ≤ j ∧ j < k
              · rw [if_pos hj2]; exact hd _ _ (by omega) (by omega)
              · rw [if_neg hj2]; exact hd _ _ hij (by omega)
        · have : i = k := by omega
          have : j = k := by omega
          subst_vars
          exact w.irr _
      · simp only [if_true, if_neg h0]
        refine desc_ok f _ (k + 1) 0 hp (by omega) (by omega) (fun i j hij hj => ?_) (fun i j a b c d => ?_) (fun p' k' q' s hs a b c d e f => hq p' k' q' s hs a (by omega) (by omega) d e f) s' hs'
        · by_cases hjk : j = k
          · subst hjk; exact hbelow _ hij
          · exact hd _ _ hij (by omega)
        · have : i = k := by omega
          have : j = k := by omega
          subst_vars
          exact w.irr _
    | false =>
      simp only [Bool.false_eq_true, if_false]
      refine ha _ _ _ _ (hp.low (by omega)) (hp.low (by omega)) hs' fun s2 hs2 => ?_
      cases e2 : lt (p.getD (k - 1) 0) (p.getD k 0) with
      | true => simp only [if_true]; exact hq p k q s2 hs2 hp (Nat.le_refl _) (by omega) h1 hd hl
      | false =>
        simp only [Bool.false_eq_true, if_false]
        refine desc_ok f _ (k + 1) (q + 1) hp (by omega) (by omega) (fun i j hij hj => ?_) (fun i j a b c d => ?_) (fun p' k' q' s hs a b c d e f => hq p' k' q' s hs a (by omega) (by omega) d e f) s2 hs2
        · by_cases hjk : j = k
          · subst hjk
            by_cases h : i = j - 1
            · rw [h]; exact e2
            · exact w.ntr _ _ _ (hd i (j - 1) (by omega) (by omega)) e2
          · exact hd _ _ hij (by omega)
        · by_cases hi : i = k
          · by_cases hj : j = k
            · rw [hi, hj]; exact w.irr _
            · rw [hi]; exact w.ntr _ _ _ e (hl _ _ (by omega) (by omega) (by omega) (by omega))
          · by_cases hj : j = k
            · rw [hj]; exact w.ntr _ _ _ (hl _ _ (by omega) (by omega) (by omega) (by omega)) e2
            · exact hl _ _ (by omega) (by omega) (by omega) (by omega)
theorem tail3_ok {Q : Nat × Array Nat → Shared → Prop} {p : Array Nat} {k : Nat} (hp : Ix n p) (h1 : 1 ≤ k) (hk : k ≤ n) (hd : Down lt p k) (hq : ∀ m p' s, S s → Ix n p' → 1 ≤ m → m ≤ n → Up lt p' m → Q (m, p') s) (s : Shared) (hs : S s) : (kas_tail3 k n p).kasWp cmp Q s := by
  unfold kas_tail3
  rw [KasT.kasWp_bind]
  have hk' : k ≤ p.size := by rw [hp.sz]; exact hk
  refine asc_ok w ha (ix_rev hp 0 k) (n - k) k h1 (by omega) (fun i j hij hj => ?_) (fun m s hs a b c _ => hq m _ s hs (ix_rev hp _ _) (by omega) (by omega) c) s hs
  rw [getD_rev hk', getD_rev hk', if_pos (by omega), if_pos (by omega)]
  exact hd _ _ (by omega) (by omega)
theorem descPart_ok {Q : Nat × Array Nat → Shared → Prop} {p : Array Nat} {k : Nat} (hp : Ix n p) (h1 : 1 ≤ k) (hk : k + 1 ≤ n) (hd : Down lt p (k + 1)) (hq : ∀ m p' s, S s → Ix n p' → 1 ≤ m → m ≤ n → Up lt p' m → Q (m, p') s) (s : Shared) (hs : S s) : (kas_descPart k n p).kasWp cmp Q s := by
  unfold kas_descPart
  rw [KasT.kasWp_bind]
  refine desc_ok w ha _ p (k + 1) 0 hp (by omega) (by omega) hd (fun i j a b c d => ?_) (fun p' k' q' s hs hp' a b c hd' hl => ?_) s hs
  · have : i = k := by omega
    have : j = k := by omega
    subst_vars
    exact w.irr _
  · by_cases h0 : q' > 0
    · simp only [if_pos h0]
      have hk' : k' ≤ p'.size := by rw [hp'.sz]; omega
      refine tail3_ok w ha (ix_rev hp' _ _) (by omega) (by omega) (fun i j hij hj => ?_) hq s hs
      rw [getD_rev hk', getD_rev hk']
      by_cases hi : k' - (q' + 1) ≤ i ∧ i < k'
      · rw [if_pos hi, if_pos (by omega)]; exact hl _ _ (by omega) (by omega) (by omega) (by omega)
      · rw [if_neg hi]
        by_cases hj2 : k' - (q' + 1) ≤ j ∧ j < k'
        · rw [if_pos hj2]; exact hd' _ _ (by omega) (by omega)
        · rw [if_neg hj2]; exact hd' _ _ hij (by omega)
    · simp only [if_neg h0]
      exact tail3_ok w ha hp' (by omega) (by omega) hd' hq s hs
theorem count_ok {Q : Nat × Array Nat → Shared → Prop} {p : Array Nat} (hn : 1 ≤ n) (hp : Ix n p) (hq : ∀ m p' s, S s → Ix n p' → 1 ≤ m → m ≤ n → Up lt p' m → Q (m, p') s) (s : Shared) (hs : S s) : (kas_count n p).kasWp cmp Q s := by
  unfold kas_count
  rw [KasT.kasWp_bind]
  refine asc_ok w ha hp (n - 1) 1 (Nat.le_refl _) (by omega) (fun i j _ _ => by omega) (fun m s hs a b hu hc => ?_) s hs
  by_cases hm : (m == n) = true
  · simp only [if_pos hm]; exact hq m p s hs hp a (by have := beq_iff_eq.mp hm; omega) hu
  · simp only [if_neg hm]
    have hmn : m ≠ n := fun z => hm (beq_iff_eq.mpr z)
    have hlt : m < n := by omega
    have hc' : lt (p.getD m 0) (p.getD (m - 1) 0) = true := by
      rcases hc with hc | hc
      · omega
      · exact hc.2
    by_cases h1 : m > 1
    · simp only [if_pos h1]
      refine ha _ _ _ _ (hp.low (by omega)) (hp.low (by omega)) hs fun s2 hs2 => ?_
      cases e : lt (p.getD 0 0) (p.getD (m - 1) 0) with
      | true => simp only [if_true]; exact hq m p s2 hs2 hp a (by omega) hu
      | false =>
        simp only [Bool.false_eq_true, if_false]
        have hk : m ≤ p.size := by rw [hp.sz]; omega
        -- all of the first m are alike
        have al : ∀ i j, i < m → j < m → lt (p.getD i 0) (p.getD j 0) = false := fun i j hi hj => by
          have h1 : lt (p.getD i 0) (p.getD 0 0) = false := by
            by_cases h : i = 0
            · rw [h]; exact w.irr _
            · exact hu 0 i (by omega) hi
          have h2 : lt (p.getD i 0) (p.getD (m - 1) 0) = false := w.ntr _ _ _ h1 e
          by_cases h : j = m - 1
          · rw [h]; exact h2
          · exact w.ntr _ _ _ h2 (hu j (m - 1) (by omega) (by omega))
        refine descPart_ok w ha (ix_rev hp _ _) a (by omega) (fun i j hij hj => ?_) hq s2 hs2
        rw [getD_rev hk, getD_rev hk, if_pos (by omega)]
        by_cases hjm : j < m
        · rw [if_pos (by omega)]; exact al _ _ (by omega) (by omega)
        · rw [if_neg (by omega)]
          have : j = m := by omega
          subst this
          exact w.ntr _ _ _ (al _ (j - 1) (by omega) (by omega)) (w.asy _ _ hc')
    · simp only [if_neg h1]
      refine descPart_ok w ha hp a (by omega) (fun i j hij hj => ?_) hq s hs
      have h1 : m = 1 := by omega
      have hi : i = m - 1 := by omega
      have hj : j = m := by omega
      rw [hi, hj]
      exact w.asy _ _ hc'
theorem place_ok {p : Array Nat} {k : Nat} (hp : Ix n p) (hk : k < n) (hu : Up lt p k) {Q : Nat → Shared → Prop} : ∀ (f l r : Nat), l ≤ r → r ≤ k → r - l ≤ f → (∀ i, i < l → lt (p.getD k 0) (p.getD i 0) = false) → (∀ i, r ≤ i → i < k → lt (p.getD k 0) (p.getD i 0) = true) →
    (∀ l s, S s → l ≤ k → (∀ i, i < l → lt (p.getD k 0) (p.getD i 0) = false) → (∀ i, l ≤ i → i < k → lt (p.getD k 0) (p.getD i 0) = true) → Q l s) → ∀ s, S s → (kas_place p k f l r).kasWp cmp Q s
  | 0, l, r, hlr, hr, hf, h1, h2, hq, s, hs => hq l s hs (by omega) h1 (fun i a b => h2 i (by omega) b)
  | f + 1, l, r, hlr, hr, hf, h1, h2, hq, s, hs => by
    unfold kas_place
    by_cases h : l ≥ r
    · rw [if_pos h]; exact hq l s hs (by omega) h1 (fun i a b => h2 i (by omega) b)
    · rw [if_neg h]
      refine ha _ _ _ _ (hp.low hk) (hp.low (by omega)) hs fun s' hs' => ?_
      cases e : lt (p.getD k 0) (p.getD ((l + r) / 2) 0) with
      | true =>
        simp only [if_true]
        refine place_ok hp hk hu f l ((l + r) / 2) (by omega) (by omega) (by omega) h1 (fun i a b => ?_) hq s' hs'
        by_cases hi : i = (l + r) / 2
        · rw [hi]; exact e
        · cases e3 : lt (p.getD k 0) (p.getD i 0) with
          | true => rfl
          | false => rw [w.ntr _ _ _ e3 (hu ((l + r) / 2) i (by omega) b)] at e; exact e
      | false =>
        simp only [Bool.false_eq_true, if_false]
        refine place_ok hp hk hu f ((l + r) / 2 + 1) r (by omega) (by omega) (by omega) (fun i a => ?_) h2 hq s' hs'
        by_cases hi : i = (l + r) / 2
        · rw [hi]; exact e
        · exact w.ntr _ _ _ e (hu i ((l + r) / 2) (by omega) (by omega))
theorem bin_ok {Q : Array Nat → Shared → Prop} : ∀ (f : Nat) (p : Array Nat) (k : Nat), Ix n p → k + f = n → Up lt p k → (∀ p' s, S s → Ix n p' → Up lt p' n → Q p' s) → ∀ s, S s → (kas_bin f p k).kasWp cmp Q s
  | 0, p, k, hp, hf, hu, hq, s, hs => by
    have : k = n := by omega
    subst this
    exact hq p s hs hp hu
  | f + 1, p, k, hp, hf, hu, hq, s, hs => by
    unfold kas_bin
    rw [KasT.kasWp_bind]
    refine place_ok w ha hp (by omega) hu k 0 k (by omega) (Nat.le_refl _) (by omega) (fun i h => by omega) (fun i a b => by omega) (fun l s hs hl h1 h2 => ?_) s hs
    have hk : k < p.size := by rw [hp.sz]; omega
    refine bin_ok f _ (k + 1) (hp.perm (bubble_perm _ _ _)) (by omega) (fun i j hij hj => ?_) hq s hs
    rw [getD_bub hk (by omega), getD_bub hk (by omega)]
    have el : k - (k - l) = l := by omega
    rw [el]
    by_cases hjl : j = l
    · rw [if_pos hjl, if_neg (by omega), if_neg (by omega)]; exact h1 i (by omega)
    · rw [if_neg hjl]
      by_cases hil : i = l
      · rw [if_pos hil, if_pos (by omega)]; exact w.asy _ _ (h2 _ (by omega) (by omega))
      · rw [if_neg hil]
        by_cases hi2 : l < i ∧ i ≤ k
        · rw [if_pos hi2, if_pos (by omega)]; exact hu _ _ (by omega) (by omega)
        · rw [if_neg hi2]
          by_cases hj2 : l < j ∧ j ≤ k
          · rw [if_pos hj2]; exact hu _ _ (by omega) (by omega)
          · rw [if_neg hj2]; exact hu _ _ hij (by omega)
theorem sort_ok {Q : Array Nat → Shared → Prop} (hn : 1 ≤ n) (hq : ∀ p' s, S s → Ix n p' → Up lt p' n → Q p' s) (s : Shared) (hs : S s) : (kas_sort n).kasWp cmp Q s := by
  unfold kas_sort
  rw [KasT.kasWp_bind]
  refine count_ok w ha hn ⟨by simp, by simp⟩ (fun m p' s hs hp h1 hm hu => ?_) s hs
  by_cases h : m < n
  · simp only [if_pos h]
    have : max m 1 = m := by omega
    rw [this]
    exact bin_ok w ha _ p' m hp (by omega) hu hq s hs
  · simp only [if_neg h]
    have : m = n := by omega
    subst this
    exact hq p' s hs hp hu
end
end L2

namespace L2
open PySem PySem.Spec PyProof.Rows PySem.W
section
variable {X : Cx} {pins : List (Addr × Obj)} {σ : St} {H H' : Hp} {s : Shared} {a : Addr}
theorem Inv.upd1 {f : Obj → Obj} (I : Inv X pins σ H s) (fa : FpOk X pins H a) : Inv X pins σ H { s with heap := s.heap.update a f } :=
  I.turned (t' := s.toks) (fun b o hb e => by rw [Heap.get?_update_ne _ _ _ _ hb]; exact e) fa.1 fa.2.1 fa.2.2.2.1 fa.2.2.2.2.1 fa.2.2.2.2.2
theorem Inv.push1 {o : Obj} (I : Inv X pins σ H s) : Inv X pins σ H { s with heap := s.heap.push o } := I.kept (t' := s.toks) fun b u e => Heap.get?_push_of_some _ e
theorem FpOk.keep (fa : FpOk X pins H a) (h : H' a = none) : FpOk X pins H' a := ⟨h, fa.2⟩
theorem Inv.track {acc : List V} {its : List Value} {n : Nat} (I : Inv X pins σ H s) (fa : FpOk X pins H a) (hn0 : X.s₀.heap.objs.size ≤ a) (hl : acc.length ≤ sizeLine) (r : Vals acc its) (hd : s.heap.get? a = some { cls := .type "list", data := .seq its.toArray n }) :
    Inv X pins σ (upd H a (.lst acc)) s := by
  have ne : ∀ b u, H b = some u → b ≠ a := fun b u e => ne_of_none e fa.1
  have old : ∀ b o, X.s₀.heap.get? b = some o → b ≠ a := fun b o e => Nat.ne_of_lt (Nat.lt_of_lt_of_le (Heap.lt_size e) hn0)
  have U := I.base
  refine ⟨I.ok, I.os, I.bare, ⟨U.keep, U.slot, fun b o e n hx => ?_, U.there, fun b xs e => ?_, fun b o u e => ?_, fun b ps e => ?_⟩, I.loc, I.cell, ?_, fun x c e => ?_, fun p hp => ?_, fun b u e => ?_, I.len⟩
  · rw [upd_ne (old b o e)]; exact U.free b o e n hx
  · rw [upd_ne (ne b _ (U.tups b xs e))]; exact U.tups b xs e
  · rw [upd_ne (ne b _ (U.frzs b o u e))]; exact U.frzs b o u e
  · obtain ⟨more, q⟩ := U.tbls b ps e
    exact ⟨more, by rw [upd_ne (ne b _ q)]; exact q⟩
  · rw [upd_ne (Ne.symm fa.2.1)]; exact I.free
  · rw [upd_ne (fa.2.2.2.2.1 x c e)]; exact I.freeC x c e
  · obtain ⟨e1, e2, e3⟩ := I.pin p hp
    exact ⟨e1, by rw [upd_ne (fa.2.2.2.2.2 p hp)]; exact e2, e3⟩
  · by_cases hb : b = a
    · subst hb
      rw [upd_same] at e
      cases e
      exact ⟨hl, its, n, r, hd⟩
    · rw [upd_ne hb] at e
      exact (I.hok b u e).stay (fun c v _ q => q) (fun c q => by rw [upd_ne (ne c _ q)]; exact q) fun c xs q => by rw [upd_ne (ne c _ q)]; exact q
end
def ltS (a b : Str) : Bool := decide (a.cps.toList < b.cps.toList)
def ltIS (a b : Int × Str) : Bool := decide (a.1 < b.1) || (decide (a.1 = b.1) && ltS a.2 b.2)
theorem ltS_irr (a : Str) : ltS a a = false := decide_eq_false (List.lt_irrefl _)
theorem ltS_asy {a b : Str} (h : ltS a b = true) : ltS b a = false := decide_eq_false (List.lt_asymm (of_decide_eq_true h))
theorem ltS_ntr {a b c : Str} (h : ltS a b = false) (h2 : ltS b c = false) : ltS a c = false := by
  unfold ltS at *
  have h1' : b.cps.toList ≤ a.cps.toList := List.not_lt.mp (of_decide_eq_false h)
  have h2' : c.cps.toList ≤ b.cps.toList := List.not_lt.mp (of_decide_eq_false h2)
  exact decide_eq_false (List.not_lt.mpr (List.le_trans h2' h1'))
theorem ltIS_iff {a b : Int × Str} : ltIS a b = true ↔ a.1 < b.1 ∨ (a.1 = b.1 ∧ ltS a.2 b.2 = true) := by
  unfold ltIS; simp
theorem ltIS_niff {a b : Int × Str} : ltIS a b = false ↔ ¬ a.1 < b.1 ∧ (a.1 = b.1 → ltS a.2 b.2 = false) := by
  unfold ltIS; simp
theorem ltIS_irr (a : Int × Str) : ltIS a a = false := ltIS_niff.mpr ⟨by omega, fun _ => ltS_irr _⟩
theorem ltIS_asy {a b : Int × Str} (h : ltIS a b = true) : ltIS b a = false := by
  rcases ltIS_iff.mp h with h | ⟨h, h2⟩
  · exact ltIS_niff.mpr ⟨by omega, fun _ => by omega⟩
  · exact ltIS_niff.mpr ⟨by omega, fun _ => ltS_asy h2⟩
theorem ltIS_ntr {a b c : Int × Str} (h : ltIS a b = false) (h2 : ltIS b c = false) : ltIS a c = false := by
  obtain ⟨h1, h3⟩ := ltIS_niff.mp h
  obtain ⟨h4, h5⟩ := ltIS_niff.mp h2
  refine ltIS_niff.mpr ⟨by omega, fun e => ?_⟩
  exact ltS_ntr (h3 (by omega)) (h5 (by omega))
section
variable {prog : Program} {w : World} {A : Around} {E : Value → Shared → Prop} {s : Shared}
theorem lt_pair {x y : Addr} {i j : Int} {t u t2 u2 : Tok} {c d : Str} {Q : Bool → Shared → Prop} (hx : IsTup s.heap x #[.int i t, .str c t2]) (hy : IsTup s.heap y #[.int j u, .str d u2]) (h : Q (ltIS (i, c) (j, d)) s) :
    wpAny (model prog w) A (keyLt' (tuples' true) (.ref x) (.ref y)) Q E s := by
  obtain ⟨ox, hox, cx, nx, dx⟩ := hx
  obtain ⟨oy, hoy, cy, ny, dy⟩ := hy
  refine kat_lt hox dx hoy dy ?_
  refine kat_cons (wpAny_eqBool_int ?_)
  by_cases e : i = j
  · rw [show (i == j) = true from beq_iff_eq.mpr e]
    refine kat_yes (kat_cons (wpAny_eqBool_str ?_))
    by_cases e2 : c = d
    · rw [decide_eq_true e2]
      refine kat_yes (kat_nil ?_)
      have : ltIS (i, c) (j, d) = false := by rw [e, e2]; exact ltIS_irr _
      rw [this] at h
      exact h
    · rw [decide_eq_false e2]
      refine kat_no (kat_one _ _ (lt_str ?_))
      have : ltIS (i, c) (j, d) = ltS c d := by unfold ltIS; simp [e]
      rw [this] at h
      exact h
  · rw [show (i == j) = false from beq_eq_false_iff_ne.mpr e]
    refine kat_no (oneLt_int ?_)
    have : ltIS (i, c) (j, d) = decide (i < j) := by unfold ltIS; simp [e]
    rw [this] at h
    exact h
end
end L2

namespace L2
open PySem PySem.Spec PyProof.Rows PySem.W
def KeyRun (sp : Sp) (kf : V → Int × Str) (H : Hp) (xs : List V) : Prop := ∀ v ∈ xs, ∀ H', Same H H' → sp [v] H' (fun y H2 => Same H' H2 ∧ Dv H2 y (.tuple [.int (kf v).1, .str (kf v).2])) E0
def InOrder {α : Type} (lt : α → α → Bool) (kf : V → α) (ys xs : List V) : Prop := ys.Perm xs ∧ ys.Pairwise fun x y => lt (kf y) (kf x) = false
section
variable {X : Cx} {pins : List (Addr × Obj)} {σ : St} {H : Hp} {s : Shared} {k : Nat} {f : Addr} {fd : FuncData} {ps : List Str} {sp : Sp} {kf : V → Int × Str} {A : Around}
theorem key_one {H' : Hp} {s' : Shared} {v : V} {u : Value} {pl : List (Addr × Obj)} (F : FnOk X.prog X.w X.K X.mg X.base CX0 k f fd ps sp) (hb : Binds X.K fd ps []) (hr : Room (k + 2) X.A) (I : Inv X pl σ H' s') (r : RelV v u)
    (hs : sp [v] H' (fun y H2 => Same H' H2 ∧ Dv H2 y (.tuple [.int (kf v).1, .str (kf v).2])) E0) :
    wpAny (model X.prog X.w) X.A.in1.in1 (call (.ref f) [u]) (EP X pl σ fun y H2 => Same H' H2 ∧ Dv H2 y (.tuple [.int (kf v).1, .str (kf v).2])) (fun _ _ => False) s' := by
  have r2 : Vals [v] [u] := .cons r .nil
  have hl : ([u] ++ []).length = ps.length := by have := F.len _ _ _ _ hs; simpa using this
  have hb' := hb s' [u] I.kIn hl
  refine wpAny_call (codeAny_mono (F.run X.A.in1.in1 X.stack s' H' ⟨[u], []⟩ [u] [v] _ E0 (Room.in1 (Room.in1 hr)) (I.env0.in1.in1) (by simpa using hb') r2 hs) fun r s2 hq => ?_)
  cases r with
  | error e => exact hq.elim
  | ok fl =>
    cases fl with
    | ret u => exact I.after hq
    | next => exact False.elim hq
    | brk => exact False.elim hq
    | cont => exact False.elim hq
structure Keys (X : Cx) (pins : List (Addr × Obj)) (σ : St) (H : Hp) (kf : V → Int × Str) (a kS : Addr) (oa : Obj) (xs : List V) (s' : Shared) : Prop where
  mk ::
  ex : ∃ H' us e ys, Inv X pins σ H' s' ∧ Same H H' ∧ H' a = none ∧ H' kS = none ∧ s'.heap.get? a = some oa ∧ s'.heap.get? kS = some (seqObj "list" (List.toArray us) e) ∧ Vals ys us ∧ Dvs H' ys (xs.map fun v => .tuple [.int (kf v).1, .str (kf v).2])
theorem keys_fold {kS : Addr} {oa : Obj} {body : Value → PUnit → Sem (ForInStep PUnit)} {E : Value → Shared → Prop} (F : FnOk X.prog X.w X.K X.mg X.base CX0 k f fd ps sp) (hb : Binds X.K fd ps []) (hr : Room (k + 2) X.A) (hoa : ∀ v, oa.data ≠ .cell v)
    (hbody : ∀ x (s' : Shared) (R : Shared → Prop), wpAny (model X.prog X.w) X.A.in1.in1 (call (.ref f) [x]) (fun k s2 => ∃ us e, s2.heap.get? kS = some (seqObj "list" (List.toArray us) e) ∧ us.length < 64 ∧ R { s2 with heap := s2.heap.update kS (Obj.mapSeq (·.push k)) }) (fun _ _ => False) s' →
      wpAny (model X.prog X.w) X.A.in1.in1 (body x ⟨⟩) (fun r s2 => r = .yield ⟨⟩ ∧ R s2) E s')
    (fa : FpOk X pins H a) (fk : FpOk X pins H kS) (hak : a ≠ kS) : ∀ (rx : List V) (r : List Value) (xs : List V) (s' : Shared), Vals rx r → KeyRun sp kf H rx → xs.length + rx.length < 64 → Keys X pins σ H kf a kS oa xs s' →
      wpAny (model X.prog X.w) X.A.in1.in1 (forIn r PUnit.unit body) (fun _ s2 => Keys X pins σ H kf a kS oa (xs ++ rx) s2) E s'
  | [], _, xs, s', hv, _, _, hK => by
    cases hv
    rw [List.forIn_nil, List.append_nil]
    exact wpAny_pure hK
  | v :: rx, _, xs, s', .cons (b := u) (l₂ := r) hu hv, hkr, hlen, ⟨H', us, e, ys, I, sm, ha, hk, oaE, okE, rv, dv⟩ => by
    rw [List.forIn_cons]
    have fa' := fa.keep (H' := H') ha
    have fk' := fk.keep (H' := H') hk
    have I' : Inv X (pins ++ [(a, oa), (kS, seqObj "list" (List.toArray us) e)]) σ H' s' := by
      refine I.pins_of fun p hp => ?_
      rcases List.mem_append.mp hp with hp | hp
      · exact I.pin p (List.mem_append_right _ hp)
      · rcases List.mem_cons.mp hp with rfl | hp
        · exact ⟨oaE, ha, fa.2.1, fa.2.2.1, hoa⟩
        · have : p = (kS, seqObj "list" (List.toArray us) e) := by simpa using hp
          subst this
          exact ⟨okE, hk, fk.2.1, fk.2.2.1, fun v z => by cases z⟩
    have hul : us.length = xs.length := by rw [← rv.length, dv.length, List.length_map]
    refine wpAny_bind (wpAny_mono (hbody u s' (fun s2 => Keys X pins σ H kf a kS oa (xs ++ [v]) s2) (wpAny_mono (key_one F hb hr I' hu (hkr v List.mem_cons_self H' sm)) (fun kv s2 hq => ?_) fun _ _ z => z)) (fun q s2 hq => ?_) fun _ _ z => z)
    · obtain ⟨y, H2, I2, ry, sm2, dy⟩ := hq
      have p1 := I2.pin (a, oa) (List.mem_append_right _ (List.mem_append_right _ List.mem_cons_self))
      have p2 := I2.pin (kS, seqObj "list" (List.toArray us) e) (List.mem_append_right _ (List.mem_append_right _ (List.mem_cons_of_mem _ List.mem_cons_self)))
      have I3 : Inv X pins σ H2 s2 := I2.unpinned
      refine ⟨us, e, p2.1, by simp at hlen; omega, ?_⟩
      obtain ⟨c, hc⟩ : ∃ c, (s2.heap.update kS (Obj.mapSeq (·.push kv))).get? kS = some (seqObj "list" (List.toArray (us ++ [kv])) c) := by
        have ea : (List.toArray us).push kv = List.toArray (us ++ [kv]) := by simp
        rw [← ea]
        exact ⟨_, get?_update_seq p2.1 (·.push kv)⟩
      refine ⟨H2, us ++ [kv], c, ys ++ [y], I3.upd1 (fk.keep p2.2.1), sm.trans sm2, p1.2.1, p2.2.1, ?_, hc, rv.append (.cons ry .nil), ?_⟩
      · show (s2.heap.update kS _).get? a = some oa
        rw [Heap.get?_update_ne _ _ _ _ hak]; exact p1.1
      · rw [List.map_append]
        exact (dv.keeps sm2).append (.cons dy .nil)
    · obtain ⟨rfl, hq⟩ := hq
      have := keys_fold F hb hr hoa hbody fa fk hak rx r (xs ++ [v]) s2 hv (fun z hz => hkr z (List.mem_cons_of_mem _ hz)) (by simp at hlen ⊢; omega) hq
      rw [List.append_assoc] at this
      exact this
theorem order_of {xs : List V} {p : Array Nat} {α : Type} {lt : α → α → Bool} {kf : V → α} (hp : Ix xs.length p) (hu : Up (fun i j => lt (kf (xs.getD i .non)) (kf (xs.getD j .non))) p xs.length) : InOrder lt kf (p.toList.map fun i => xs.getD i .non) xs := by
  refine ⟨?_, ?_⟩
  · have h := hp.pm.map fun i => xs.getD i .non
    have e : (List.range xs.length).map (fun i => xs.getD i .non) = xs := by
      refine List.ext_getElem? fun i => ?_
      rw [List.getElem?_map]
      by_cases hi : i < xs.length
      · rw [List.getElem?_range hi]; simp [hi]
      · rw [List.getElem?_eq_none (by simpa using hi), List.getElem?_eq_none (by simpa using hi)]; rfl
    rw [e] at h
    exact h
  · rw [List.pairwise_map, List.pairwise_iff_getElem]
    intro i j hi hj hij
    have hsz : p.toList.length = xs.length := by simp [hp.sz]
    have := hu i j hij (by omega)
    have gi : p.getD i 0 = p.toList[i] := by simp [Array.getD, show i < p.size by rw [hp.sz]; omega]
    have gj : p.getD j 0 = p.toList[j] := by simp [Array.getD, show j < p.size by rw [hp.sz]; omega]
    rw [gi, gj] at this
    exact this
theorem vals_getD : ∀ {xs : List V} {us : List Value} (i : Nat), Vals xs us → RelV (xs.getD i .non) (us.getD i Value.none)
  | _, _, _, .nil => rfl
  | _, _, 0, .cons r _ => r
  | _, _, i + 1, .cons _ t => by simpa using vals_getD i t
theorem vals_mapD {xs : List V} {us : List Value} (r : Vals xs us) : ∀ l : List Nat, Vals (l.map fun i => xs.getD i .non) (l.map fun i => us.getD i Value.none)
  | [] => .nil
  | i :: l => .cons (vals_getD i r) (vals_mapD r l)
theorem dvs_getD {H : Hp} {g : V → PyData} : ∀ {ys : List V} {xs : List V} {i : Nat}, Dvs H ys (xs.map g) → i < xs.length → Dv H (ys.getD i .non) (g (xs.getD i .non))
  | _, [], _, _, h => by simp at h
  | _, _ :: _, 0, .cons h _, _ => h
  | _, _ :: _, i + 1, .cons _ t, hi => by simpa using dvs_getD (i := i) t (by simpa using hi)
def SortFin (X : Cx) (pins : List (Addr × Obj)) (σ : St) (H : Hp) {α : Type} (lt : α → α → Bool) (kf : V → α) (xs : List V) (Q : VK) : Prop :=
  ∀ a ys H', Same H H' → H a = none → H' a = none → InOrder lt kf ys xs → Q (.ref a) (upd H' a (.lst ys))
theorem asks_pair {H' : Hp} {s' : Shared} {xs ys : List V} {us : List Value} {A : Around} (I : Inv X pins σ H' s') (rv : Vals ys us) (dv : Dvs H' ys (xs.map fun v => .tuple [.int (kf v).1, .str (kf v).2])) :
    Asks xs.length (fun i j => ltIS (kf (xs.getD i .non)) (kf (xs.getD j .non))) (fun z => z = s') (kas_ask X.prog X.w A (tuples' true) us) := by
  intro i j C z hi hj hz hC
  subst hz
  have one : ∀ i, i < xs.length → ∃ x t t2, us.getD i Value.none = .ref x ∧ IsTup z.heap x #[.int (kf (xs.getD i .non)).1 t, .str (kf (xs.getD i .non)).2 t2] := fun i hi => by
    have d := dvs_getD dv hi
    have r := vals_getD i rv
    generalize ys.getD i .non = y at d r
    generalize us.getD i Value.none = u at r
    cases d with
    | tup h q =>
      have r' : u = .ref _ := r
      obtain ⟨its, rr, tt, _⟩ := I.tuple (.of h)
      cases q with
      | cons h1 q =>
        cases q with
        | cons h2 q =>
          cases q
          cases h1; cases h2
          cases rr with
          | cons r1 rr =>
            cases rr with
            | cons r2 rr =>
              cases rr
              obtain ⟨t1, rfl⟩ := r1
              obtain ⟨t2, rfl⟩ := r2
              exact ⟨_, t1, t2, r', tt⟩
  obtain ⟨x, t, t2, e1, hx⟩ := one i hi
  obtain ⟨y, u, u2, e2, hy⟩ := one j hj
  show wpAny (model X.prog X.w) A (keyLt' (tuples' true) (us.getD i Value.none) (us.getD j Value.none)) C (fun _ _ => False) z
  rw [e1, e2]
  exact lt_pair hx hy (hC _ rfl)
theorem kinds_pair {H' : Hp} {s' : Shared} : ∀ {xs ys : List V} {us : List Value}, Inv X pins σ H' s' → Vals ys us → Dvs H' ys (xs.map fun v => .tuple [.int (kf v).1, .str (kf v).2]) →
    ∃ fs, KatTups s'.heap us fs ∧ fs.length = us.length ∧ ∀ v ∈ fs, Looks (model X.prog X.w) s'.heap (typeOf v) (.type "int")
  | [], _, _, I, rv, dv => by
    cases dv
    cases rv
    exact ⟨[], trivial, rfl, fun _ z => nomatch z⟩
  | x :: xs, _, _, I, rv, dv => by
    cases dv with
    | cons d dv =>
      cases rv with
      | cons r rv =>
        obtain ⟨fs, h1, h2, h3⟩ := kinds_pair I rv dv
        cases d with
        | tup h q =>
          obtain ⟨its, rr, tt, _⟩ := I.tuple (.of h)
          cases q with
          | cons q1 q =>
            cases q with
            | cons q2 q =>
              cases q
              cases q1; cases q2
              cases rr with
              | cons r1 rr =>
                cases rr with
                | cons r2 rr =>
                  cases rr
                  obtain ⟨t1, rfl⟩ := r1
                  obtain ⟨t2, rfl⟩ := r2
                  cases r
                  obtain ⟨o, ho, hc, n, hd⟩ := tt
                  refine ⟨_ :: fs, KatTups.cons ho hc hd rfl h1, by simp [h2], fun v hv => ?_⟩
                  rcases List.mem_cons.mp hv with rfl | hv
                  · exact .now
                  · exact h3 v hv
end
end L2

namespace L2
open PySem PySem.Spec PyProof.Rows PySem.W
section
variable {X : Cx} {pins : List (Addr × Obj)} {σ : St} {H : Hp} {s : Shared} {k : Nat} {f : Addr} {fd : FuncData} {ps : List Str} {sp : Sp} {kf : V → Int × Str} {A : Around}
theorem sort_tail {H' : Hp} {s' : Shared} {a kS : Addr} {e e1 : Nat} {us out : List Value} {ys : List V} {st : SortSt} {E : Value → Shared → Prop} {P : PySem.Fin → Shared → Prop} (I : Inv X pins σ H' s') (fa : FpOk X pins H' a) (fk : FpOk X pins H' kS) (hak : a ≠ kS) (hn0 : X.s₀.heap.objs.size ≤ a)
    (oa : s'.heap.get? a = some (seqObj "list" #[] e1)) (ok : s'.heap.get? kS = some (seqObj "list" (List.toArray us) e)) (hz : us.length < 64) (hout : (arrOf st).map (·.2) = List.toArray out) (ho : out.length < 64) (hf : failedOf st = none) (rv : Vals ys out)
    (h : ∀ s2, Inv X pins σ (upd H' a (.lst ys)) s2 → P (.done (.ret .none)) s2) : wpAny (model X.prog X.w) A (ksk_tail a false e1 (.ref kS) st) P E s' := by
  have hsl : (64 : Nat) ≤ sizeLine := by decide
  unfold ksk_tail
  dsimp only
  rw [hout]
  refine wpAny_bind (listUpdate_at ok rfl ?_ (by rw [List.size_toArray]; omega) (Nat.zero_le _))
  refine wpAny_bind (wpAny_letGo ?_)
  have oa1 : (s'.heap.update kS (Obj.mapSeq fun _ => (#[] : Array Value))).get? a = some (seqObj "list" #[] e1) := by rw [Heap.get?_update_ne _ _ _ _ hak]; exact oa
  have I1 : Inv X pins σ H' { s' with heap := s'.heap.update kS (Obj.mapSeq fun _ => (#[] : Array Value)) } := I.upd1 fk
  refine wpAny_bind (seqEpoch_at oa1 rfl ?_)
  refine wpAny_bind (listUpdate_at oa1 rfl ?_ (Nat.zero_le _) (by show (List.toArray out).size ≤ _; rw [List.size_toArray]; omega))
  rw [hf]
  simp only [bne_self_eq_false, Bool.false_eq_true, if_false]
  refine wpAny_pure (h _ ?_)
  have I2 := I1.upd1 (f := Obj.mapSeq fun _ => List.toArray out) fa
  exact I2.track fa hn0 (by rw [rv.length]; omega) rv (get?_update_seq oa1 fun _ => List.toArray out)
theorem sort_end {H' : Hp} {s' : Shared} {a kS : Addr} {e e1 : Nat} {us vs : List Value} {xs ys : List V} {Q : VK} {E : Value → Shared → Prop} {P : PySem.Fin → Shared → Prop} (sm : Same H H') (hHa : H a = none) (I : Inv X pins σ H' s') (fa : FpOk X pins H' a) (fk : FpOk X pins H' kS) (hak : a ≠ kS) (hn0 : X.s₀.heap.objs.size ≤ a)
    (oa : s'.heap.get? a = some (seqObj "list" #[] e1)) (ok : s'.heap.get? kS = some (seqObj "list" (List.toArray us) e)) (h64 : xs.length < 64) (rx : Vals xs vs) (ry : Vals ys us) (dv : Dvs H' ys (xs.map fun v => .tuple [.int (kf v).1, .str (kf v).2]))
    (fin : SortFin X pins σ H ltIS kf xs Q) (h : ∀ s2, EP X pins σ Q (.ref a) s2 → P (.done (.ret .none)) s2) : wpAny (model X.prog X.w) A (ksk_end a false vs.toArray e1 (.ref kS) (List.toArray us)) P E s' := by
  have lx := rx.length
  have ly := ry.length
  have ld := dv.length
  rw [List.length_map] at ld
  unfold ksk_end
  simp only [Bool.false_eq_true, if_false]
  by_cases h2 : vs.toArray.size < 2
  · rw [if_pos h2, if_pos h2]
    refine wpAny_bind (wpAny_pure ?_)
    rw [StateT.run_pure]
    refine wpAny_bind (wpAny_pure ?_)
    refine sort_tail (out := vs) (ys := xs) I fa fk hak hn0 oa ok (by omega) ?_ (by omega) rfl rx (fun s2 I2 => h s2 ⟨.ref a, _, I2, rfl, fin a xs H' sm hHa fa.1 ⟨List.Perm.refl _, ?_⟩⟩)
    · show ((List.toArray us).zip vs.toArray).map (·.2) = List.toArray vs
      apply Array.toList_inj.mp
      have : us.length = vs.length := by omega
      simp [List.map_snd_zip, this]
    · rw [List.size_toArray] at h2
      match xs, lx with
      | [], _ => exact .nil
      | [_], _ => exact List.pairwise_singleton _ _
      | _ :: _ :: _, lx => simp at lx; omega
  · rw [if_neg h2, if_neg h2]
    rw [List.size_toArray] at h2
    obtain ⟨fs, k1, k2, k3⟩ := kinds_pair I ry dv
    refine wpAny_bind (kat_kind k1 (by omega) k3 (by decide) ?_)
    have hxy : us.length = vs.length := by omega
    refine wpAny_bind (wpAny_mono (kat_run (Q := fun st' s2 => s2 = s' ∧ ∃ p : Array Nat, Ix xs.length p ∧ arrOf st' = p.map (kas_item ((List.toArray us).zip (List.toArray vs))) ∧ failedOf st' = none ∧ Up (fun i j => ltIS (kf (xs.getD i .non)) (kf (xs.getD j .non))) p xs.length)
      (G := fun p s2 => s2 = s' ∧ Ix xs.length p ∧ Up (fun i j => ltIS (kf (xs.getD i .non)) (kf (xs.getD j .non))) p xs.length) hxy (by omega) (by omega) (fun p st' s2 a1 a2 a3 ⟨a4, a5, a6⟩ => ⟨a4, p, a5, a2, a3, a6⟩) ?_) ?_ fun _ _ z => z)
    · rw [show vs.length = xs.length by omega]
      refine sort_ok (lt := fun i j => ltIS (kf (xs.getD i .non)) (kf (xs.getD j .non))) (S := fun z => z = s') ⟨fun _ => ltIS_irr _, fun _ _ => ltIS_asy, fun _ _ _ => ltIS_ntr⟩ (asks_pair I ry dv) (by omega) (fun p s2 hs hp hu => ⟨hs, hp, hu⟩) s' rfl
    · rintro ⟨⟨⟩, st'⟩ s2 ⟨rfl, p, hp, har, hf, hu⟩
      dsimp only
      refine sort_tail (out := p.toList.map fun i => vs.getD i Value.none) (ys := p.toList.map fun i => xs.getD i .non) I fa fk hak hn0 oa ok (by omega) (kat_snds hxy har) (by simp [hp.sz]; omega) hf (vals_mapD rx _) (fun s3 I3 => h s3 ⟨.ref a, _, I3, rfl, fin a _ H' sm hHa fa.1 (order_of hp hu)⟩)
theorem sorted_key {l : Addr} {xs : List V} {Q : VK} {E : Value → Shared → Prop} (I : Inv X pins σ H s) (hl : SqL X.K H l xs) (h64 : xs.length < 64) (F : FnOk X.prog X.w X.K X.mg X.base CX0 k f fd ps sp) (hb : Binds X.K fd ps []) (hr : Room (k + 2) X.A)
    (hk : KeyRun sp kf H xs) (fin : SortFin X pins σ H ltIS kf xs Q) : wpAny (model X.prog X.w) X.A (call (.builtin "sorted") [.ref l] [(Str.ofString "key", .ref f)]) (EP X pins σ Q) E s := by
  have hsl : (64 : Nat) ≤ sizeLine := by decide
  obtain ⟨vs, rv, p, hz⟩ := I.list hl
  have lx := rv.length
  refine call_function_entry_kw kind_sorted plain_sorted entry_sorted (ksk_s1 _ _) ?_
  unfold Builtin.«sorted»
  refine wpAny_bind (m := checkCount "sorted" 1 1 _) (wpAny_pure ?_)
  refine wpAny_bind (collect_list p.isList ?_ (by omega))
  refine wpAny_bind (wpAny_newList ?_ (by omega))
  have fp0 : FpOk X pins H s.heap.objs.size := I.fpOk (Nat.le_refl _) (I.hok.fresh (Nat.le_refl _))
  have I2 : Inv X pins σ H { s with heap := (s.heap.push (seqObj "list" #[] 0)).update s.heap.objs.size (Obj.mapSeq (· ++ vs.toArray)) } := (I.push1 (o := seqObj "list" #[] 0)).upd1 fp0
  have hsz : ((s.heap.push (seqObj "list" #[] 0)).update s.heap.objs.size (Obj.mapSeq (· ++ vs.toArray))).objs.size = s.heap.objs.size + 1 := by rw [Heap.size_update, size_push']
  generalize hG : (s.heap.push (seqObj "list" #[] 0)).update s.heap.objs.size (Obj.mapSeq (· ++ vs.toArray)) = h2 at I2 hsz ⊢
  have hoL : (h2.push (seqObj "list" vs.toArray 0)).get? h2.objs.size = some (seqObj "list" vs.toArray 0) := Heap.get?_push_size _ rfl
  have I3 : Inv X pins σ H { s with heap := h2.push (seqObj "list" vs.toArray 0) } := I2.push1
  have fa : FpOk X pins H h2.objs.size := I2.fpOk (Nat.le_refl _) (I2.hok.fresh (Nat.le_refl _))
  have hn0 : X.s₀.heap.objs.size ≤ h2.objs.size := I2.sz
  show wpAny _ _ _ _ _ { s with heap := h2.push (seqObj "list" vs.toArray 0) }
  generalize h2.objs.size = a at *
  refine wpAny_bind (wpAny_holding (wpAny_call_entry_kw slot_list_sort ⟨_, hoL, rfl⟩ entry_list_sort ?body (ksk_l1 _ _)))
  case body =>
    show wpAny (model X.prog X.w) X.A.in1.in1 (Builtin.«list.sort» ⟨[.ref a], [(Str.ofString "key", .ref f)]⟩) _ _ _
    rw [ksk_t1]
    generalize h2.push (seqObj "list" vs.toArray 0) = h3 at *
    unfold ksk_tree
    refine wpAny_bind (listItems_at hoL rfl ?_)
    refine wpAny_bind (listUpdate_at hoL rfl ?_ (by rw [List.size_toArray]; omega) (Nat.zero_le _))
    have I4 : Inv X pins σ H { s with heap := h3.update a (Obj.mapSeq fun _ => (#[] : Array Value)) } := I3.upd1 fa
    obtain ⟨e1, oa⟩ : ∃ e1, (h3.update a (Obj.mapSeq fun _ => (#[] : Array Value))).get? a = some (seqObj "list" #[] e1) := ⟨_, get?_update_seq hoL fun _ => #[]⟩
    generalize h3.update a (Obj.mapSeq fun _ => (#[] : Array Value)) = h4 at *
    refine wpAny_bind (seqEpoch_at oa rfl ?_)
    refine wpAny_bind (wpAny_newTuple ?_ (by show vs.length ≤ _; omega))
    have I5 : Inv X pins σ H { s with heap := h4.push (seqObj "tuple" vs.toArray 0) } := I4.push1
    have oa5 : (h4.push (seqObj "tuple" vs.toArray 0)).get? a = some (seqObj "list" #[] e1) := Heap.get?_push_of_some _ oa
    show wpAny _ _ _ _ _ { s with heap := h4.push (seqObj "tuple" vs.toArray 0) }
    generalize h4.push (seqObj "tuple" vs.toArray 0) = h5 at *
    refine wpAny_bind (wpAny_newList ?_ (Nat.zero_le _))
    have I6 : Inv X pins σ H { s with heap := h5.push (seqObj "list" #[] 0) } := I5.push1
    have fk : FpOk X pins H h5.objs.size := I5.fpOk (Nat.le_refl _) (I5.hok.fresh (Nat.le_refl _))
    have oa6 : (h5.push (seqObj "list" #[] 0)).get? a = some (seqObj "list" #[] e1) := Heap.get?_push_of_some _ oa5
    have ok6 : (h5.push (seqObj "list" #[] 0)).get? h5.objs.size = some (seqObj "list" #[] 0) := Heap.get?_push_size _ rfl
    have hak : a ≠ h5.objs.size := Nat.ne_of_lt (Heap.lt_size oa5)
    show wpAny _ _ _ _ _ { s with heap := h5.push (seqObj "list" #[] 0) }
    show wpAny _ _ (holding [_, .ref h5.objs.size] (ksk_rest a (.ref f) false vs.toArray e1 (.ref h5.objs.size))) _ _ _
    generalize h5.objs.size = kS at *
    generalize h5.push (seqObj "list" #[] 0) = h6 at *
    refine wpAny_holding ?_
    unfold ksk_rest
    refine wpAny_bind (wpAny_rule ?_)
    first
      | rw [List.forIn_toArray]
      | (rw [← Array.forIn_toList]; simp only [List.toList_toArray])
    refine wpAny_bind (wpAny_mono (keys_fold (kf := kf) F hb hr (oa := seqObj "list" #[] e1) (fun v z => by cases z) (fun x s' R hx => ?_) fa fk hak xs vs [] { s with heap := h6 } rv hk (by simpa using h64) ⟨H, [], 0, [], I6, Same.refl _, fa.1, fk.1, oa6, ok6, .nil, .nil⟩) (fun _ s7 hK => ?_) fun _ _ z => z)
    · refine wpAny_bind (wpAny_attempt (wpAny_mono hx (fun kv s2 hq => ?_) fun _ _ z => z.elim))
      obtain ⟨us, e, ok, hlt, hR⟩ := hq
      dsimp only
      refine wpAny_bind (listUpdate_at ok rfl ?_ (by rw [List.size_toArray]; omega) (by rw [Array.size_push, List.size_toArray]; omega))
      exact wpAny_pure ⟨rfl, hR⟩
    · obtain ⟨H', us, e, ys, I7, sm, ha7, hk7, oa7, ok7, ry, dv⟩ := hK
      try dsimp only
      refine wpAny_bind (listItems_at ok7 rfl ?_)
      refine sort_end sm fa.1 I7 (fa.keep ha7) (fk.keep hk7) hak hn0 oa7 ok7 h64 rv ry (by simpa using dv) fin (fun s8 h8 => ⟨_, rfl, wpAny_pure ⟨_, rfl, h8⟩⟩)
end
end L2

namespace L2
open PySem PySem.Spec PyProof.Rows PySem.W
def SortKP (sp : Sp) (K : PySem.W.Frag) (vs : List V) (H : Hp) (Q : VK) : Prop := ∃ a xs kf, vs = [.ref a] ∧ SqL K H a xs ∧ xs.length < 64 ∧ KeyRun sp kf H xs ∧ ∀ l ys H', Same H H' → H l = none → H' l = none → InOrder ltIS kf ys xs → Q (.ref l) (upd H' l (.lst ys))
def tSortK (K : PySem.W.Frag) (sp : Sp) (t : TA) : TE := fun σ H Q => t σ H fun vs H1 => SortKP sp K vs H1 Q
section
variable {X : Cx} {k : Nat} {f : Addr} {ps : List Str} {sp : Sp} {e : Expr} {t : TA} {x : Str} {p p2 pos kpos : Pos}
theorem pe_sortK (c : Cal X.prog X.w X.K X.mg X.base k f ps [] sp) (hr : Room (k + 2) X.A) (hg : Gl X "sorted") (hm : X.mg "sorted" = none) (hf : PE X (.Name x p2) (tC (.ref f))) (ha : PA X [e] t)
    (hst : backTo pos (starEach [e] X.env) = (false, eval e X.env) :: backTo pos (starEach [] X.env) := by rfl) (hpl : (backTo pos (starEach [e] X.env)).any (·.1) = false := by rfl) : PE X (.Call (.Name "sorted" p) [e] [⟨some "key", .Name x p2, kpos⟩] pos) (tSortK X.K sp t) := by
  intro pins s σ H Q I h
  obtain ⟨fd, ds, F, hb, hd⟩ := c.ex
  cases hd
  refine wpAny_Call_Name_kw (ld_blt I hg hm boot_sorted ?_)
  refine callWith_kw (thn (ha pos pins s σ H _ I h) fun us s1 ⟨vs, H1, I1, r1, q1⟩ => ?_) hst hpl
  refine thn (pk_cons hf pk_nil pos pins s1 σ H1 (fun zs H2 => zs = [.ref f] ∧ H2 = H1) I1 ⟨rfl, rfl⟩) fun ws s2 ⟨zs, H2, I2, rz, q2, q3⟩ => ?_
  subst q2; subst q3
  obtain ⟨a, xs, kf, e1, hl, h64, hk, fin⟩ := q1
  subst e1
  obtain ⟨u, rfl, ru⟩ := vals1 r1
  obtain ⟨w', rfl, rw'⟩ := vals1 rz
  have e1 : u = .ref a := ru
  have e2 : w' = .ref f := rw'
  subst e1; subst e2
  exact sorted_key I2 hl h64 F hb hr hk (fun a ys H' => fin a ys H')
end
end L2

namespace L2
open PySem PySem.Spec PyProof.Rows
theorem closure_ok {scope : Scope} {env : Env} (h : ∀ x ∈ scope.names, x.2 = .free → ∃ c, env.cells.lookup x.1 = some c) :
    ∃ cl, closureFor scope env = pure cl ∧ (∀ x c, cl.lookup x = some c → env.cells.lookup x = some c) ∧ ∀ x ∈ scope.names, x.2 = .free → ∃ c, cl.lookup x.1 = some c := by
  have key : ∀ (l : List (Str × NameKind)) (acc : List (Str × Addr)), (∀ x ∈ l, x.2 = .free → ∃ c, env.cells.lookup x.1 = some c) → (∀ x c, acc.lookup x = some c → env.cells.lookup x = some c) →
      ∃ cl, (forIn l acc (fun (x : Str × NameKind) (r : List (Str × Addr)) => (match x with
        | (name, kind) => if (kind == NameKind.free) = true then (do let c ← cellOf env name; pure (ForInStep.yield ((name, c) :: r))) else pure (ForInStep.yield r) : Sem (ForInStep (List (Str × Addr))))) : Sem _) = pure cl ∧
        (∀ x c, cl.lookup x = some c → env.cells.lookup x = some c) ∧ (∀ x ∈ l, x.2 = .free → ∃ c, cl.lookup x.1 = some c) ∧ ∀ x, (∃ c, acc.lookup x = some c) → ∃ c, cl.lookup x = some c := by
    intro l
    induction l with
    | nil => intro acc _ ha; exact ⟨acc, rfl, ha, fun _ z => (nomatch z), fun _ z => z⟩
    | cons p r ih =>
      intro acc hl ha
      obtain ⟨n, k⟩ := p
      rw [List.forIn_cons]
      by_cases hk : k = .free
      · subst hk
        obtain ⟨c, hc⟩ := hl (n, .free) List.mem_cons_self rfl
        have hcell : cellOf env n = pure c := by unfold cellOf; rw [hc]
        obtain ⟨cl, e, h1, h2, h3⟩ := ih ((n, c) :: acc) (fun x hx => hl x (List.mem_cons_of_mem _ hx)) (fun x d hd => by
          rw [List.lookup_cons] at hd
          by_cases hx : x = n
          · subst hx; rw [beq_self_eq_true] at hd; cases hd; exact hc
          · rw [beq_eq_false_iff_ne.mpr hx] at hd; exact ha x d hd)
        refine ⟨cl, ?_, h1, fun x hx hf => ?_, fun x ⟨d, hd⟩ => h3 x ?_⟩
        · simp only [beq_self_eq_true, if_true, hcell]
          exact e
        · rcases List.mem_cons.mp hx with rfl | hx
          · exact h3 n ⟨c, by rw [List.lookup_cons, beq_self_eq_true]⟩
          · exact h2 x hx hf
        · rw [List.lookup_cons]
          by_cases hx : x = n
          · subst hx; rw [beq_self_eq_true]; exact ⟨c, rfl⟩
          · rw [beq_eq_false_iff_ne.mpr hx]; exact ⟨d, hd⟩
      · obtain ⟨cl, e, h1, h2, h3⟩ := ih acc (fun x hx => hl x (List.mem_cons_of_mem _ hx)) ha
        refine ⟨cl, ?_, h1, fun x hx hf => ?_, h3⟩
        · have : (k == NameKind.free) = false := by simpa using hk
          simp only [this, Bool.false_eq_true, if_false]
          exact e
        · rcases List.mem_cons.mp hx with rfl | hx
          · exact absurd hf hk
          · exact h2 x hx hf
  obtain ⟨cl, e, h1, h2, _⟩ := key scope.names [] h (fun _ _ z => by simp at z)
  refine ⟨cl, ?_, h1, h2⟩
  unfold closureFor
  show (forIn scope.names [] _ >>= fun cs => pure cs) = _
  refine Eq.trans (congrArg (· >>= _) e) rfl
end L2
namespace L2
open PySem PySem.Spec PyProof.Rows
theorem relabel_look {env : Env} {scope : Scope} {x : Str} : (relabel scope env).names.lookup x = (scope.names.lookup x).map fun k => if (k == NameKind.free && env.scope.kind == .function && env.kindOf x == some .cell) = true then .cell else k := by
  unfold relabel
  show List.lookup x (List.map _ scope.names) = _
  generalize scope.names = l
  induction l with
  | nil => rfl
  | cons p r ih =>
    obtain ⟨n, k⟩ := p
    rw [List.map_cons]
    dsimp only
    by_cases hx : x = n
    · subst hx
      by_cases hc : (k == NameKind.free && env.scope.kind == .function && env.kindOf x == some .cell) = true
      · rw [if_pos hc, List.lookup_cons, List.lookup_cons, beq_self_eq_true]; simp only [Option.map_some, if_pos hc]
      · rw [if_neg hc, List.lookup_cons, List.lookup_cons, beq_self_eq_true]; simp only [Option.map_some, if_neg hc]
    · have hb : (x == n) = false := beq_eq_false_iff_ne.mpr hx
      by_cases hc : (k == NameKind.free && env.scope.kind == .function && env.kindOf n == some .cell) = true
      · rw [if_pos hc, List.lookup_cons, List.lookup_cons, hb]; exact ih
      · rw [if_neg hc, List.lookup_cons, List.lookup_cons, hb]; exact ih
theorem mem_lookup {α : Type} {x : Str} {k : α} : ∀ {l : List (Str × α)}, l.lookup x = some k → (x, k) ∈ l
  | [], h => by simp at h
  | (n, j) :: r, h => by
    rw [List.lookup_cons] at h
    by_cases hx : x = n
    · subst hx; rw [beq_self_eq_true] at h; cases h; exact List.mem_cons_self
    · rw [beq_eq_false_iff_ne.mpr hx] at h; exact List.mem_cons_of_mem _ (mem_lookup h)
def cxLC (X : Cx) (N : List Str) (scope : Scope) (cl : List (Str × Addr)) (C : Addr) (s : Shared) (H : Hp) (fp : List Addr) : Cx :=
  { X with N := N, s₀ := s, H₀ := H, env := compEnvC scope cl C X.env, outer := X.stack, stack := X.stack, ex := fp, fn := fun _ => false, pn := [], xe := fun _ _ => False }
structure LCNames (X : Cx) (T M : List Str) (scope : Scope) : Prop where
  kind : scope.kind = .function
  cell : ∀ y ∈ scope.names, y.2 ≠ .cell
  names : ∀ y ∈ scope.names, y.2 = .local → scope.names.lookup y.1 = some .local
  free : ∀ y ∈ scope.names, y.2 = .free → X.env.scope.names.lookup y.1 = some .cell ∨ X.env.scope.names.lookup y.1 = some .free
  len : M.length = X.N.length
  old : ∀ (i : Nat) x, M[i]? = some x → X.N[i]? = some x ∧ scope.names.lookup x = some .free ∨ scope.names.lookup x = none
section
variable {X : Cx} {pins : List (Addr × Obj)} {σ : St} {H : Hp} {s : Shared} {T M : List Str} {scope : Scope} {cl : List (Str × Addr)} {fp : List Addr}
theorem lc_ok {C : Addr} (I : Inv X pins σ H s) (hN : LCNames X T M scope) (h1 : ∀ x c, cl.lookup x = some c → X.env.cells.lookup x = some c) (h2 : ∀ x ∈ scope.names, x.2 = .free → ∃ c, cl.lookup x.1 = some c)
    (hC : s.heap.objs.size ≤ C) (hf : ∀ b ∈ fp, FpOk X pins H b) (hfe : ∀ b ∈ fp, b < s.heap.objs.size) : (cxLC X (T ++ M) scope cl C s H fp).Ok where
  mod := I.ok.mod
  kind := hN.kind
  glob := I.ok.glob
  blt := I.ok.blt
  above := hC
  inj := fun x y c e1 e2 => I.ok.inj x y c (h1 x c e1) (h1 y c e2)
  has := fun x hx => by
    have hx' : (relabel scope X.env).names.lookup x = some .cell ∨ (relabel scope X.env).names.lookup x = some .free := hx
    rw [relabel_look] at hx'
    cases e : scope.names.lookup x with
    | none => rw [e] at hx'; simp at hx'
    | some k =>
      have hm := mem_lookup e
      have hk : k = .free := by
        rw [e] at hx'
        simp only [Option.map_some, Option.some.injEq] at hx'
        by_cases hf : k = .free
        · exact hf
        · have : (k == NameKind.free) = false := by simpa using hf
          simp only [this, Bool.false_and, Bool.false_eq_true, if_false] at hx'
          rcases hx' with hx' | hx'
          · exact absurd hx' (hN.cell _ hm)
          · exact hx'
      exact h2 (x, k) hm hk
  cab := fun _ _ z => by cases z
  hd := I.ok.hd
  frames := I.ok.frames
  stk := .inl rfl
  exf := fun b hb => ⟨Nat.ne_of_lt (Nat.lt_of_lt_of_le (hfe b hb) hC), fun x c e => (hf b hb).2.2.2.2.1 x c (h1 x c e)⟩
  bs := I.bs
  bsz := Nat.le_trans I.ok.bsz I.sz
  noex := fun b o e hb => by
    rcases (hf b hb).2.2.2.1 with z | z
    · exact I.ok.noex b o e z
    · exact absurd (Nat.lt_of_lt_of_le (Heap.lt_size e) (Nat.le_trans I.ok.bsz z)) (Nat.lt_irrefl _)
  exfs := fun b hb z => by
    rcases List.mem_cons.mp (I.stkSub b z) with e | e
    · exact (hf b hb).2.1 e
    · exact (hf b hb).2.2.1 e
  funs := I.stack
  frf := I.stkFree
theorem lc_start {C : Addr} {h₁ : Heap} {tk : Nat} (I : Inv X pins σ H s) (hN : LCNames X T M scope) (h1 : ∀ x c, cl.lookup x = some c → X.env.cells.lookup x = some c) (h2 : ∀ x ∈ scope.names, x.2 = .free → ∃ c, cl.lookup x.1 = some c)
    (hC : s.heap.objs.size ≤ C) (hf : ∀ b ∈ fp, FpOk X pins H b) (hfe : ∀ b ∈ fp, b < s.heap.objs.size)
    {m : Str → Option Value} (hn : h₁.Ns C m) (old : ∀ b o, s.heap.get? b = some o → h₁.get? b = some o) :
    Inv (cxLC X (T ++ M) scope cl C s H fp) [] (List.replicate T.length none ++ σ) H { s with heap := h₁, toks := tk } where
  ok := lc_ok I hN h1 h2 hC hf hfe
  os := rfl
  bare := I.bare
  base := Un.kept old
  loc := by
    refine ⟨m, hn, fun i x v e1 e2 e3 => ?_⟩
    have e1' : (T ++ M)[i]? = some x := e1
    by_cases hi : i < T.length
    · rw [List.getElem?_append_left (by simpa using hi), List.getElem?_replicate, if_pos hi] at e2
      cases e2
    · have hi' : T.length ≤ i := Nat.le_of_not_lt hi
      rw [List.getElem?_append_right hi'] at e1'
      rw [List.getElem?_append_right (by simpa using hi'), List.length_replicate] at e2
      have vis : Vis (relabel scope X.env) x := e3
      rcases hN.old _ x e1' with ⟨hx, hfr⟩ | hno
      · obtain ⟨m0, hn0, hl0⟩ := I.loc
        have hk := hN.free _ (mem_lookup hfr) rfl
        have hk' : X.env.scope.names.lookup x = some .cell ∨ X.env.scope.names.lookup x = some .free := hk
        obtain ⟨u, r, l⟩ := hl0 _ x v hx e2 (.inr hk')
        refine ⟨u, r, .inr ?_⟩
        rcases l with ⟨z, _⟩ | ⟨_, c, hc, hcell⟩
        · have z' : X.env.scope.names.lookup x = some .local := z
          rw [z'] at hk'; rcases hk' with q | q <;> cases q
        · obtain ⟨c', hc'⟩ := h2 _ (mem_lookup hfr) rfl
          have : c' = c := by have := h1 _ _ hc'; rw [hc] at this; exact (Option.some.inj this).symm
          subst this
          refine ⟨?_, c', hc', ?_⟩
          · show (relabel scope X.env).names.lookup x = some .cell ∨ (relabel scope X.env).names.lookup x = some .free
            rw [relabel_look, hfr]
            simp only [Option.map_some, Option.some.injEq]
            by_cases hc : (NameKind.free == NameKind.free && X.env.scope.kind == .function && X.env.kindOf x == some .cell) = true
            · left; rw [if_pos hc]
            · right; rw [if_neg hc]
          · obtain ⟨o, ho, hd⟩ := hcell
            exact ⟨o, old _ _ ho, hd⟩
      · unfold Vis at vis
        rw [relabel_look, hno] at vis
        simp at vis
  cell := fun x c e => by
    obtain ⟨v, o, ho, hd⟩ := I.cell x c (h1 x c e)
    exact ⟨v, o, old _ _ ho, hd⟩
  free := I.hok.fresh hC
  freeC := fun x c e => I.freeC x c (h1 x c e)
  pin := fun p hp => nomatch hp
  hok := I.hok.kept old
  len := by
    show (List.replicate T.length none ++ σ).length = (T ++ M).length
    rw [List.length_append, List.length_append, List.length_replicate, hN.len, I.len]
theorem lc_back {C D : Addr} {s' : Shared} {σ' : St} {H' : Hp} {acc : List V} {its : List Value} {n : Nat} (I : Inv X pins σ H s) (I' : Inv (cxLC X (T ++ M) scope cl C s H fp) [] σ' H' s')
    (hf : ∀ b ∈ fp, FpOk X pins H b) (hD : s.heap.objs.size ≤ D) (hn : H' D = none) (hl : acc.length ≤ sizeLine) (r : Vals acc its) (hd : s'.heap.get? D = some { cls := .type "list", data := .seq its.toArray n }) :
    Inv X pins σ (upd H' D (.lst acc)) s' := by
  have U : Un (frs X.stack) fp H H' s.heap s'.heap := I'.base
  have neD : ∀ b o, s.heap.get? b = some o → b ≠ D := fun b o e => Nat.ne_of_lt (Nat.lt_of_lt_of_le (Heap.lt_size e) hD)
  have neT : ∀ b u, H' b = some u → b ≠ D := fun b u e => ne_of_none e hn
  refine I.call' (ch := fp) I'.os ⟨U.keep, U.slot, fun b o e1 e2 e3 => ?_, U.there, fun b xs e => ?_, fun b o u e => ?_, fun b ps e => ?_⟩ (fun b u e => ?_) I'.bare (fun b hb => ⟨(hf b hb).2.2.2.1, (hf b hb).2.1, (hf b hb).2.2.2.2.1, (hf b hb).2.2.2.2.2⟩)
  · rw [upd_ne (neD b o e1)]; exact U.free b o e1 e2 e3
  · rw [upd_ne (neT b _ (U.tups b xs e))]; exact U.tups b xs e
  · rw [upd_ne (neT b _ (U.frzs b o u e))]; exact U.frzs b o u e
  · obtain ⟨more, q⟩ := U.tbls b ps e
    exact ⟨more, by rw [upd_ne (neT b _ q)]; exact q⟩
  · by_cases hb : b = D
    · subst hb
      rw [upd_same] at e
      cases e
      exact ⟨hl, its, n, r, hd⟩
    · rw [upd_ne hb] at e
      exact (I'.hok b u e).stay (fun c v _ q => q) (fun c q => by rw [upd_ne (neT c _ q)]; exact q) fun c xs q => by rw [upd_ne (neT c _ q)]; exact q
end
end L2

namespace L2
open PySem PySem.Spec PyProof.Rows
theorem codeAny_lc {prog : Program} {w : World} {A : Around} {R : Result → Shared → Prop} {s : Shared} {elt target iter : Expr} {ifs : List Expr} {scope : Scope} {pos : Pos} {it acc : Value} {env : Env} (I : Nat → Shared → Prop)
    (turn : ∀ n s, I n s → wpAny (model prog w) A (pyNext it) (fun r s₁ => match r with
      | none => R (.ok .next) s₁
      | some v => wpAny (model prog w) A (letOwnedTupleGo target it v) (fun _ s₁' => wpAny (model prog w) A (assign target env v) (fun _ s₂ =>
          wpAny (model prog w) A (forIn ifs true fun c r => if r = true then do let ok ← isTrue c env (eval c env); pure (ForInStep.yield ok) else pure (ForInStep.yield r)) (fun ok s₃ =>
            if ok = true then wpAny (model prog w) A (eval elt env) (fun x s₄ =>
              wpAny (model prog w) A (call (.builtin "list.append") [acc, x]) (fun _ s₅ => ∃ m, m < n ∧ I m s₅) (fun _ _ => False) s₄) (fun _ _ => False) s₃
            else ∃ m, m < n ∧ I m s₃) (fun _ _ => False) s₂) (fun _ _ => False) s₁') (fun _ _ => False) s₁) (fun _ _ => False) s)
    (n : Nat) (h : I n s) :
    codeAny (model prog w) A (.compLoop (.ListComp elt [⟨target, iter, ifs, 0⟩] scope pos) 0 it acc env) R s := by
  refine codeAny_loop rfl I (fun n s hI => ?_) n h
  show wpAny _ A ((compTurn (.ListComp elt [⟨target, iter, ifs, 0⟩] scope pos) 0 it acc env).onRaise (fun x => do noteFrame x env; theTreesLotGoes x)) _ _ s
  refine wpAny_noted ?_
  rw [compTurn_list]
  refine wpAny_bind (wpAny_standAt (wpAny_bind (wpAny_mono (turn n s hI) (fun r s₁ h₁ => ?_) fun _ _ h' => h'.elim)))
  cases r with
  | none => exact wpAny_pure h₁
  | some v =>
    refine wpAny_bind (wpAny_mono h₁ (fun _ s₁' h₁' => ?_) fun _ _ h' => h'.elim)
    refine wpAny_bind (wpAny_mono h₁' (fun _ s₂ h₂ => wpAny_bind (wpAny_mono h₂ (fun ok s₃ h₃ => ?_) fun _ _ h' => h'.elim)) fun _ _ h' => h'.elim)
    cases ok with
    | false => exact wpAny_pure ⟨rfl, h₃⟩
    | true =>
      exact wpAny_bind (wpAny_bind (wpAny_mono h₃ (fun x s₄ h₄ => wpAny_bind (wpAny_mono h₄ (fun _ s₅ h₅ => wpAny_pure (wpAny_pure ⟨rfl, h₅⟩)) fun _ _ h' => h'.elim)) fun _ _ h' => h'.elim))
def PIf (X : Cx) (ifs : List Expr) (t : TT) : Prop :=
  ∀ (pins : List (Addr × Obj)) (s : Shared) (σ : St) (H : Hp) (Q : Bool → Hp → Prop), Inv X pins σ H s → t σ H Q →
    wpAny (model X.prog X.w) X.A (forIn ifs true fun c r => if r = true then do let ok ← isTrue c X.env (eval c X.env); pure (ForInStep.yield ok) else pure (ForInStep.yield r)) (TP X pins σ Q) X.xe s
def tYes : TT := fun _ H Q => Q true H
theorem pif_nil {X : Cx} : PIf X [] tYes := fun _ _ _ H _ I h => wpAny_tests_nil ⟨H, I, h⟩
theorem pif_one {X : Cx} {c : Expr} {t : TT} (h : PT X c t) : PIf X [c] t := fun pins s σ H Q I q => wpAny_tests_one (h pins s σ H Q I q)
def LCW (k : Nat) (g : TG) (tc : TT) (te : TE) (Fin : List V → Hp → Prop) (σ : St) (J : It) (H1 : Hp) : Prop :=
  ∃ W : Nat → Nat → List V → Hp → Prop, (∃ m, W 0 m [] H1) ∧ ∀ i m acc H, W i m acc H →
    (J.stop i H ∧ Fin acc H) ∨ (J.go i H ∧ acc.length < sizeLine ∧ ∀ x H', J.yld i H x H' → g x (List.replicate k none ++ σ) H' fun σ2 H2 => tc σ2 H2 fun b H3 =>
      if b = true then te σ2 H3 fun y H4 => ∃ m', m' < m ∧ W (i + 1) m' (acc ++ [y]) H4 else ∃ m', m' < m ∧ W (i + 1) m' acc H3)
section
variable {X : Cx} {pins : List (Addr × Obj)} {σ : St} {H : Hp} {s : Shared} {T M : List Str} {scope : Scope} {cl : List (Str × Addr)} {fp : List Addr} {g : TG} {tc : TT} {te : TE} {tg elt iter : Expr} {ifs : List Expr} {pos : Pos}
theorem Inv.forget {X : Cx} {pins : List (Addr × Obj)} {σ σ' : St} {H : Hp} {s : Shared} (I : Inv X pins σ' H s) (k : Nat) (hk : k + σ.length = σ'.length) (h : σ'.drop k = σ) : Inv X pins (List.replicate k none ++ σ) H s := by
  refine I.weak (by simp [hk]) (fun i v e => ?_)
  by_cases hi : i < k
  · rw [List.getElem?_append_left (by simpa using hi), List.getElem?_replicate, if_pos hi] at e; cases e
  · rw [List.getElem?_append_right (by simpa using hi), List.length_replicate, ← h, List.getElem?_drop] at e
    have : k + (i - k) = i := by omega
    rw [this] at e; exact e
theorem lc_run {it : Addr} {tn : Nat → Heap → Prop} {J : It} {RR : Value → Addr → Result → Shared → Prop} {Fin : List V → Hp → Prop} {E : Value → Shared → Prop}
    (hN : LCNames X T M scope) (hcalm : X.calm = true) (h1 : ∀ x c, cl.lookup x = some c → X.env.cells.lookup x = some c) (h2 : ∀ x ∈ scope.names, x.2 = .free → ∃ c, cl.lookup x.1 = some c)
    (hg : ∀ cl C s H fp, PG (cxLC X (T ++ M) scope cl C s H fp) tg g) (hgk : ∀ v H Q, g v (List.replicate T.length none ++ σ) H Q → g v (List.replicate T.length none ++ σ) H fun σ2 H2 => Q σ2 H2 ∧ T.length + σ.length = σ2.length ∧ σ2.drop T.length = σ)
    (hc : ∀ cl C s H fp, PIf (cxLC X (T ++ M) scope cl C s H fp) ifs tc) (he : ∀ cl C s H fp, PE (cxLC X (T ++ M) scope cl C s H fp) elt te)
    (I : Inv X pins σ H s) (Tn : Turn X.prog X.w X.K tg J fp it tn) (st : tn 0 s.heap) (hf : ∀ b ∈ fp, FpOk X pins H b) (hW : LCW T.length g tc te Fin σ J H)
    (hR : ∀ D C s' H' acc m, s.heap.objs.size ≤ D → s.heap.objs.size ≤ C → C ≠ D → s'.heap.Ns C m → H' C = none → H' D = none → Inv X pins σ (upd H' D (.lst acc)) s' → Fin acc H' → RR (.ref D) C (.ok .next) s') :
    wpAny (model X.prog X.w) X.A (newList []) (fun acc s₃ => wpAny (model X.prog X.w) X.A (newFunctionEnv scope X.env.globals cl [] X.env.qual none .none (some X.env)) (fun cenv s₄ =>
      codeAny (model X.prog X.w) X.A (.compStart (.ListComp elt [⟨tg, iter, ifs, 0⟩] scope pos) 0 (.ref it) acc { cenv with scope := relabel scope X.env }) (RR acc cenv.locals) s₄) E s₃) E s := by
  refine wpAny_newObj_type (wpAny_newFunctionEnv hN.cell (by intro y hy; simp at hy) (fun h₁ hns₁ hsb₁ => ?_) hN.kind)
  dsimp only at hns₁ hsb₁ ⊢
  generalize hH2 : s.heap.push { cls := .type "list", dict := none, data := .seq ([] : List Value).toArray } = H2 at hns₁ hsb₁ ⊢
  have hC : H2.objs.size = s.heap.objs.size + 1 := by rw [← hH2, Heap.size_push]
  have hDC : s.heap.objs.size ≠ H2.objs.size := by rw [hC]; exact Nat.ne_of_lt (Nat.lt_succ_self _)
  have hCle : s.heap.objs.size ≤ H2.objs.size := by rw [hC]; exact Nat.le_succ _
  have hfe : ∀ b ∈ fp, b < s.heap.objs.size := fun b hb => by obtain ⟨o, ho, _⟩ := Tn.obj _ _ st b hb; exact Heap.lt_size ho
  have old : ∀ b o, s.heap.get? b = some o → h₁.get? b = some o := fun b o e => hsb₁.extBut b o (Nat.ne_of_lt (Nat.lt_of_lt_of_le (Heap.lt_size e) hCle)) (Heap.get?_push_of_some _ (hH2 ▸ Heap.get?_push_of_some _ e))
  have hacc : h₁.PlainList s.heap.objs.size #[] := ⟨_, hsb₁.extBut _ _ hDC (Heap.get?_push_of_some _ (hH2 ▸ Heap.get?_push_size _ rfl))⟩
  generalize hDe : s.heap.objs.size = D at *
  generalize hCe : H2.objs.size = C at *
  have I0 : Inv (cxLC X (T ++ M) scope cl C s H fp) [] (List.replicate T.length none ++ σ) H { s with heap := h₁, toks := s.toks + ([] : List (Str × Value)).length } :=
    lc_start I hN h1 h2 (by rw [hDe]; exact hCle) hf (by rw [hDe]; exact hfe) hns₁ old
  have st0 : tn 0 h₁ := Tn.keep _ _ _ st fun b _ o e => old b o e
  obtain ⟨W, ⟨m0, w0⟩, turn⟩ := hW
  have nDf : ∀ b ∈ fp, b ≠ D := fun b hb => Nat.ne_of_lt (hfe b hb)
  have stat : ∀ {H' : Hp} {pl : List (Addr × Obj)}, (∀ b ∈ fp, H' b = none) → (∀ p ∈ pl, p.1 = D) → ∀ b ∈ fp, FpOk (cxLC X (T ++ M) scope cl C s H fp) pl H' b := fun {H' pl} hn hp b hb => by
    have ok := I0.ok
    refine ⟨hn b hb, (ok.exf b hb).1, ok.exfs b hb, .inl hb, (ok.exf b hb).2, fun p hq => ?_⟩
    have hq' : p ∈ pl := hq
    rw [hp p hq']; exact Ne.symm (nDf b hb)
  have loop : codeAny (model X.prog X.w) X.A (.compLoop (.ListComp elt [⟨tg, iter, ifs, 0⟩] scope pos) 0 (.ref it) (.ref D) (compEnvC scope cl C X.env)) (RR (.ref D) C) { s with heap := h₁, toks := s.toks + ([] : List (Str × Value)).length } := by
    refine codeAny_lc (fun n s' => ∃ i acc H' its, Inv (cxLC X (T ++ M) scope cl C s H fp) [] (List.replicate T.length none ++ σ) H' s' ∧ tn i s'.heap ∧ (∀ b ∈ fp, H' b = none) ∧ s'.heap.PlainList D its ∧ H' D = none ∧ Vals acc its.toList ∧ acc.length ≤ sizeLine ∧ W i n acc H') ?_ m0
      ⟨0, [], H, #[], I0, st0, fun b hb => (hf b hb).1, hacc, I.hok.fresh (by rw [hDe]; exact Nat.le_refl _), .nil, Nat.zero_le _, w0⟩
    rintro n s3 ⟨i, acc, H3, its, I3, st3, fr3, ⟨nn, ho⟩, hD3, hv, hlen, w3⟩
    have pinD : ∀ {H'} {s'} {σ'} {o : Obj}, Inv (cxLC X (T ++ M) scope cl C s H fp) [] σ' H' s' → s'.heap.get? D = some o → (∀ v, o.data ≠ .cell v) → H' D = none → Inv (cxLC X (T ++ M) scope cl C s H fp) [(D, o)] σ' H' s' := fun {H' s' σ' o} I' e d hn => by
      refine I'.pins_of fun p hp => ?_
      have e' : p = (D, o) := by simpa using hp
      subst e'
      refine ⟨e, hn, hDC, fun z => ?_, d⟩
      have z' : D ∈ frs X.stack := z
      obtain ⟨_, o', ho', _⟩ := I.stack.mem z'
      exact absurd (Heap.lt_size ho') (by rw [hDe]; exact Nat.lt_irrefl _)
    have I3' := pinD I3 ho (fun v z => by cases z) hD3
    rcases turn i n acc H3 w3 with ⟨stop, fin⟩ | ⟨go, hl, step⟩
    · refine thn (Tn.done (cxLC X (T ++ M) scope cl C s H fp) rfl rfl rfl hcalm i _ s3 _ H3 _ I3' (stat fr3 (by simp)) st3 stop) fun r s4 ⟨hr, I4⟩ => ?_
      subst hr
      have e4 := (I4.pin (D, _) (List.mem_append_right _ List.mem_cons_self)).1
      have I4' : Inv (cxLC X (T ++ M) scope cl C s H fp) [] (List.replicate T.length none ++ σ) H3 s4 := I4.pins_of fun p hp => nomatch hp
      obtain ⟨m4, n4, _⟩ := I4'.loc
      exact hR D C s4 H3 acc m4 (Nat.le_refl _) hCle (Ne.symm hDC) n4 I4'.free hD3 (lc_back I I4' hf (by rw [hDe]; exact Nat.le_refl _) hD3 hlen hv (by simpa using e4)) fin
    · refine thn (Tn.item (cxLC X (T ++ M) scope cl C s H fp) rfl rfl rfl hcalm i _ s3 _ H3 _ I3' (stat fr3 (by simp)) st3 go) fun r s4 ⟨u, hr, h4⟩ => ?_
      subst hr
      refine thn h4 fun _ s5 ⟨x, H5, I5, r5, y5, st5, fr5⟩ => ?_
      have I5' := I5.pinned (stat fr5 (by simp)) (Tn.obj _ _ st5)
      refine thn (hg _ _ _ _ _ _ s5 _ H5 x u _ I5' r5 (hgk _ _ _ (step x H5 y5))) fun _ s6 ⟨σ6, H6, I6, q6, q6a, q6b⟩ => ?_
      refine thn (hc _ _ _ _ _ _ s6 σ6 H6 _ I6 q6) fun b s7 ⟨H7, I7, q7⟩ => ?_
      have rest : ∀ {s8 : Shared} {H8 : Hp}, Inv (cxLC X (T ++ M) scope cl C s H fp) ([(D, _)] ++ pinsAt fp s5.heap) σ6 H8 s8 → tn (i + 1) s8.heap ∧ (∀ b ∈ fp, H8 b = none) ∧ s8.heap.PlainList D its ∧ H8 D = none ∧ Inv (cxLC X (T ++ M) scope cl C s H fp) [] (List.replicate T.length none ++ σ) H8 s8 := fun {s8 H8} I8 => by
        refine ⟨Tn.keep _ _ _ st5 fun b hb o e => (I8.pin (b, o) (List.mem_append_right _ (List.mem_append_right _ (mem_pinsAt hb e)))).1, fun b hb => ?_, ⟨nn, (I8.pin (D, _) (List.mem_append_right _ (List.mem_append_left _ List.mem_cons_self))).1⟩, (I8.pin (D, _) (List.mem_append_right _ (List.mem_append_left _ List.mem_cons_self))).2.1, (I8.forget T.length q6a q6b).pins_of fun p hp => nomatch hp⟩
        obtain ⟨o, e, d⟩ := Tn.obj _ _ st5 b hb
        exact (I8.pin (b, o) (List.mem_append_right _ (List.mem_append_right _ (mem_pinsAt hb e)))).2.1
      cases b with
      | false =>
        obtain ⟨m', hm, w7⟩ := q7
        obtain ⟨a1, a2, a3, a4, a5⟩ := rest I7
        exact ⟨m', hm, i + 1, acc, H7, its, a5, a1, a2, a3, a4, hv, hlen, w7⟩
      | true =>
        refine thn (he _ _ _ _ _ _ s7 σ6 H7 _ I7 q7) fun y s8 ⟨yv, H8, I8, r8, m', hm, w8⟩ => ?_
        obtain ⟨a1, a2, a3, a4, a5⟩ := rest I8
        have hsz : its.size ≤ sizeLine := by have := hv.length; simp at this; omega
        refine wpAny_list_append_plain (hsz := hsz) a3 fun h9 hl9 hs9 => ?_
        refine ⟨m', hm, i + 1, acc ++ [yv], H8, its.push y, ?_, ?_, a2, hl9, a4, ?_, by simp; omega, w8⟩
        · exact a5.turned (t' := s8.toks) (it := D) (fun b o hb e => (hs9.2 b hb).trans e) a4 hDC (.inr (by show s.heap.objs.size ≤ D; rw [hDe]; exact Nat.le_refl _)) (fun x c e z => by
            obtain ⟨v, o, ho, _⟩ := I.cell x c (h1 x c e)
            exact absurd (Heap.lt_size ho) (by rw [hDe, z]; exact Nat.lt_irrefl _)) (fun p hp => nomatch hp)
        · exact Tn.keep _ _ _ a1 fun b hb o e => (hs9.2 b (nDf b hb)).trans e
        · simpa using Vals.append hv (.cons r8 .nil)
  exact codeAny_compStart_list loop (Tn.self _ _ _ _ _ st0 loop)
end
end L2

namespace L2
open PySem PySem.Spec PyProof.Rows
def GOwn (k : Nat) (g : TG) : Prop := ∀ v (τ σ : St) H Q, τ.length = k → g v (τ ++ σ) H Q → g v (τ ++ σ) H fun σ2 H2 => Q σ2 H2 ∧ ∃ τ', τ'.length = k ∧ σ2 = τ' ++ σ
def GsOwn (k : Nat) (g : TGs) : Prop := ∀ vs (τ σ : St) H Q, τ.length = k → g vs (τ ++ σ) H Q → g vs (τ ++ σ) H fun σ2 H2 => Q σ2 H2 ∧ ∃ τ', τ'.length = k ∧ σ2 = τ' ++ σ
theorem gown_name {k i : Nat} (h : i < k) : GOwn k (gName i) := fun v τ σ H Q hl q => by
  have e : (τ ++ σ).set i (some v) = τ.set i (some v) ++ σ := List.set_append_left _ _ (by omega)
  exact ⟨q, τ.set i (some v), by simp [hl], e⟩
theorem gsown_nil {k : Nat} : GsOwn k gNil := fun vs τ σ H Q hl ⟨e, q⟩ => ⟨e, q, τ, hl, rfl⟩
theorem gsown_cons {k i : Nat} {u : TGs} (h : i < k) (h2 : GsOwn k u) : GsOwn k (gCons (gName i) u) := fun vs τ σ H Q hl ⟨v, r, e, q⟩ => by
  have e1 : (τ ++ σ).set i (some v) = τ.set i (some v) ++ σ := List.set_append_left _ _ (by omega)
  refine ⟨v, r, e, ?_⟩
  show u r ((τ ++ σ).set i (some v)) H _
  rw [e1]
  have q' : u r ((τ ++ σ).set i (some v)) H Q := q
  rw [e1] at q'
  exact h2 r _ σ H Q (by simp [hl]) q'
theorem gown_tup {K : PySem.W.Frag} {k n : Nat} {u : TGs} (h : GsOwn k u) : GOwn k (gTup K n u) := fun v τ σ H Q hl ⟨a, xs, e, hq, hn, q⟩ => ⟨a, xs, e, hq, hn, h xs τ σ H Q hl q⟩
def LCFin (Q : VK) (acc : List V) (H : Hp) : Prop := ∀ p, H p = none → Q (.ref p) (upd H p (.lst acc))
def tLC (k : Nat) (wi : TI) (g : TG) (tc : TT) (te : TE) : TE := fun σ H Q => wi σ H fun J H1 => LCW k g tc te (LCFin Q) σ J H1
section
variable {X : Cx} {T M : List Str} {scope : Scope} {g : TG} {tc : TT} {te : TE} {wi : TI} {tg elt iter : Expr} {ifs : List Expr} {pos : Pos}
theorem pe_lc (hN : LCNames X T M scope) (hcalm : X.calm = true) (hi : PI X tg iter wi) (hg : ∀ cl C s H fp, PG (cxLC X (T ++ M) scope cl C s H fp) tg g) (hgo : GOwn T.length g)
    (hc : ∀ cl C s H fp, PIf (cxLC X (T ++ M) scope cl C s H fp) ifs tc) (he : ∀ cl C s H fp, PE (cxLC X (T ++ M) scope cl C s H fp) elt te)
    (hs : ∀ x, foldedSetIterable iter X.env x = pure x := by intro _; rfl) : PE X (.ListComp elt [⟨tg, iter, ifs, 0⟩] scope pos) (tLC T.length wi g tc te) := by
  intro pins s σ H Q I h
  obtain ⟨cl, hcl, h1, h2⟩ := closure_ok (scope := scope) (env := X.env) fun x hx hf => I.ok.has x.1 (hN.free x hx hf)
  rw [eval_ListComp]
  refine wpAny_comprehension_free (use := none) rfl hs hcl hN.kind hN.names (thn (hi pins s σ H _ I h) fun xv s1 h1' => thn h1' fun itv s2 h2' => ?_)
  obtain ⟨it, fp, tn, J, H2, e, I2, Tn, st, hf, hW⟩ := h2'
  subst e
  refine lc_run (RR := fun acc C => compPost (model X.prog X.w) X.A X.xe none (EP X pins σ Q) acc C) hN hcalm h1 h2 hg (fun v H Q q => ?_) hc he I2 Tn st hf hW ?_
  · have := hgo v (List.replicate T.length none) σ H Q (by simp) q
    refine (by
      have e : (fun (σ2 : St) (H2 : Hp) => Q σ2 H2 ∧ T.length + σ.length = σ2.length ∧ σ2.drop T.length = σ) = fun σ2 H2 => Q σ2 H2 ∧ ∃ τ' : St, τ'.length = T.length ∧ σ2 = τ' ++ σ := by
        funext σ2 H2
        refine propext ⟨fun ⟨a, b, c⟩ => ⟨a, σ2.take T.length, by rw [List.length_take]; omega, by rw [← c, List.take_append_drop]⟩, fun ⟨a, τ', b, c⟩ => ⟨a, by rw [c, List.length_append, b], by rw [c, ← b, List.drop_left]⟩⟩
      rw [e]; exact this)
  · intro D C s' H' acc m hD hC hne hn hHC hHD Ib fin
    refine ⟨m, hn, fun h' hs' => ⟨.ref D, _, ?_, rfl, fin D hHD⟩⟩
    exact Ib.turned (t' := s'.toks) (it := C) (fun b o hb e => (hs'.2 b hb).trans e) (by rw [upd_ne hne]; exact hHC) (Nat.ne_of_gt (Nat.lt_of_lt_of_le I2.lt hC)) (.inr (Nat.le_trans I2.sz hC)) (fun x c e z => by
      obtain ⟨v, q⟩ := I2.cell x c e
      exact absurd (Nat.lt_of_lt_of_le q.lt (by rw [z]; exact hC)) (Nat.lt_irrefl _)) (fun p hp z => absurd (Nat.lt_of_lt_of_le (Heap.lt_size (I2.pin p hp).1) (by rw [z]; exact hC)) (Nat.lt_irrefl _))
theorem ps_lc {i : Nat} {y : Str} {py spos : Pos} (hnd : X.N.Nodup) (hi' : X.N[i]? = some y) (hy : Loc X.env.scope y) (hN : LCNames X T M scope) (hcalm : X.calm = true) (hi : PI X tg iter wi) (hg : ∀ cl C s H fp, PG (cxLC X (T ++ M) scope cl C s H fp) tg g) (hgo : GOwn T.length g)
    (hc : ∀ cl C s H fp, PIf (cxLC X (T ++ M) scope cl C s H fp) ifs tc) (he : ∀ cl C s H fp, PE (cxLC X (T ++ M) scope cl C s H fp) elt te)
    (hsw : swapsWith (.ListComp elt [⟨tg, iter, ifs, 0⟩] scope pos) (some (.Name y py)) spos.line X.env = pure true)
    (hs : ∀ x, foldedSetIterable iter X.env x = pure x := by intro _; rfl) (hf' : X.fn y = true ∨ X.env.scope.names.lookup y = some .local := by first | exact .inl rfl | exact .inr rfl | assumption) :
    PS X (.Assign [.Name y py] (.ListComp elt [⟨tg, iter, ifs, 0⟩] scope pos) spos) (tAsg (tLC T.length wi g tc te) (gName i)) := by
  intro pins s σ H D' I h
  have h : tLC T.length wi g tc te σ H fun x H1 => D'.nx (σ.set i (some x)) H1 := h
  obtain ⟨cl, hcl, h1, h2⟩ := closure_ok (scope := scope) (env := X.env) fun x hx hf => I.ok.has x.1 (hN.free x hx hf)
  rw [exec_Assign_Name_used _ _ _ _ hsw]
  refine wpAny_bind (wpAny_standAt (wpAny_bind ?_))
  show wpAny _ X.A (do let _ ← comprehension (.ListComp elt [⟨tg, iter, ifs, 0⟩] scope pos) scope X.env _ (newList []) false (eval iter X.env) (some (assign (.Name y py) X.env))) _ _ s
  refine wpAny_bind (wpAny_mono (wpAny_comprehension_free (use := some (assign (.Name y py) X.env)) (Q := fun _ s' => SP X pins D' .next s') rfl hs hcl hN.kind hN.names
    (thn (hi pins s σ H _ I h) fun xv s1 h1' => thn h1' fun itv s2 h2' => ?_)) (fun _ s' hq => wpAny_pure (wpAny_pure hq)) fun _ _ e => e)
  obtain ⟨it, fp, tn, J, H2, e, I2, Tn, st, hf, hW⟩ := h2'
  subst e
  refine lc_run (RR := fun acc C => compPost (model X.prog X.w) X.A X.xe (some (assign (.Name y py) X.env)) (fun _ s' => SP X pins D' .next s') acc C) hN hcalm h1 h2 hg (fun v H Q q => ?_) hc he I2 Tn st hf hW ?_
  · have := hgo v (List.replicate T.length none) σ H Q (by simp) q
    refine (by
      have e : (fun (σ2 : St) (H2 : Hp) => Q σ2 H2 ∧ T.length + σ.length = σ2.length ∧ σ2.drop T.length = σ) = fun σ2 H2 => Q σ2 H2 ∧ ∃ τ' : St, τ'.length = T.length ∧ σ2 = τ' ++ σ := by
        funext σ2 H2
        refine propext ⟨fun ⟨a, b, c⟩ => ⟨a, σ2.take T.length, by rw [List.length_take]; omega, by rw [← c, List.take_append_drop]⟩, fun ⟨a, τ', b, c⟩ => ⟨a, by rw [c, List.length_append, b], by rw [c, ← b, List.drop_left]⟩⟩
      rw [e]; exact this)
  · intro D C s' H' acc m hD hC hne hn hHC hHD Ib fin
    show wpAny _ X.A (assign (.Name y py) X.env (.ref D)) _ _ _
    refine wpAny_assign_Name (store_ok2 Ib hnd hi' hy (v := .ref D) rfl (fun s3 I3 ⟨a, sb, ha⟩ => ?_) hf')
    have hCL : C ≠ X.env.locals := Nat.ne_of_gt (Nat.lt_of_lt_of_le I2.lt hC)
    have hCc : ∀ x c, X.env.cells.lookup x = some c → c ≠ C := fun x c e z => by
      obtain ⟨v, q⟩ := I2.cell x c e
      exact absurd (Nat.lt_of_lt_of_le q.lt (by rw [z]; exact hC)) (Nat.lt_irrefl _)
    have hCa : C ≠ a := by
      rcases ha with rfl | ha
      · exact hCL
      · exact Ne.symm (hCc _ _ ha)
    refine ⟨m, hn.sameBut sb hCa, fun h' hs' => ⟨_, _, ?_, fin D hHD⟩⟩
    exact I3.turned (t' := s3.toks) (it := C) (fun b o hb e => (hs'.2 b hb).trans e) (by rw [upd_ne hne]; exact hHC) hCL (.inr (Nat.le_trans I2.sz hC)) hCc (fun p hp z => absurd (Nat.lt_of_lt_of_le (Heap.lt_size (I2.pin p hp).1) (by rw [z]; exact hC)) (Nat.lt_irrefl _))
end
end L2

namespace L2
open PySem PySem.Spec PyProof.Rows PySem.W
mutual
def Imm : PyData → Bool
  | .none => true
  | .bool _ => true
  | .int _ => true
  | .str _ => true
  | .tuple ds => ImmAll ds
  | .list _ => false
  | .dict _ => false
def ImmAll : List PyData → Bool
  | [] => true
  | d :: ds => Imm d && ImmAll ds
end
theorem immAll_iff : ∀ {ds : List PyData}, ImmAll ds = true ↔ ∀ d ∈ ds, Imm d = true
  | [] => by simp [ImmAll]
  | d :: ds => by simp [ImmAll, immAll_iff (ds := ds)]
theorem immAll_append {ds es : List PyData} (h1 : ImmAll ds = true) (h2 : ImmAll es = true) : ImmAll (ds ++ es) = true := by
  rw [immAll_iff] at *
  intro d hd
  rcases List.mem_append.mp hd with h | h
  · exact h1 d h
  · exact h2 d h
theorem immAll_map {α : Type} {f : α → PyData} (h : ∀ x, Imm (f x) = true) (xs : List α) : ImmAll (xs.map f) = true := by
  rw [immAll_iff]
  intro d hd
  obtain ⟨x, _, rfl⟩ := List.mem_map.mp hd
  exact h x
structure Mv (S : List Addr) (H H' : Hp) : Prop where
  kp : ∀ a o, a ∉ S → H a = some o → H' a = some o
  tp : ∀ a xs, H a = some (.tup xs) → H' a = some (.tup xs)
  dm : ∀ a, H' a = none → H a = none
theorem Mv.refl {S : List Addr} {H : Hp} : Mv S H H := ⟨fun _ _ _ h => h, fun _ _ h => h, fun _ h => h⟩
theorem Same.mv {S : List Addr} {H H' : Hp} (s : Same H H') : Mv S H H' := ⟨fun a o _ h => s a o h, fun a xs h => s a _ h, fun a h => by
  cases e : H a with
  | none => rfl
  | some o => rw [s a o e] at h; cases h⟩
theorem Mv.trans {S : List Addr} {H H1 H2 : Hp} (m : Mv S H H1) (m2 : Mv S H1 H2) : Mv S H H2 := ⟨fun a o n h => m2.kp a o n (m.kp a o n h), fun a xs h => m2.tp a xs (m.tp a xs h), fun a h => m.dm a (m2.dm a h)⟩
theorem Mv.step {S S1 : List Addr} {H H1 H2 : Hp} (m : Mv S H H1) (m2 : Mv S1 H1 H2) (hs : ∀ a ∈ S1, a ∈ S ∨ H a = none) : Mv S H H2 := by
  refine ⟨fun a o n h => ?_, fun a xs h => m2.tp a xs (m.tp a xs h), fun a h => m.dm a (m2.dm a h)⟩
  refine m2.kp a o (fun z => ?_) (m.kp a o n h)
  rcases hs a z with q | q
  · exact n q
  · rw [q] at h; cases h
theorem Mv.stepS {S : List Addr} {H H1 H2 : Hp} (m : Mv S H H1) (s : Same H1 H2) : Mv S H H2 := m.trans s.mv
theorem Mv.at {S : List Addr} {H H' : Hp} {a : Addr} {o : HO} (m : Mv S H H') (n : a ∉ S) (h : H a = some o) : H' a = some o := m.kp a o n h
theorem Same.none {H H' : Hp} {a : Addr} (m : Same H H') (h : H' a = none) : H a = none := (m.mv (S := [])).dm a h
theorem Mv.of_upd {H : Hp} {p : Addr} {o u : HO} (h : H p = some u) (nt : ∀ xs, u ≠ .tup xs) : Mv [p] H (upd H p o) := ⟨fun a v n e => by
  rw [upd_ne (fun z => n (by simp [z]))]; exact e, fun a xs e => by
  rw [upd_ne (fun z => by subst z; rw [h] at e; exact nt xs (Option.some.inj e))]; exact e, fun a e => by
  by_cases z : a = p
  · subst z; rw [upd_same] at e; cases e
  · rw [upd_ne z] at e; exact e⟩
mutual
theorem Dv.imm {H H' : Hp} (t : ∀ a xs, H a = some (.tup xs) → H' a = some (.tup xs)) : ∀ {v : V} {d : PyData}, Dv H v d → Imm d = true → Dv H' v d
  | _, _, .non, _ => .non
  | _, _, .bl b, _ => .bl b
  | _, _, .int i, _ => .int i
  | _, _, .str x, _ => .str x
  | _, _, .tup h r, c => .tup (t _ _ h) (Dvs.imm t r (by simpa [Imm] using c))
  | _, _, .lst h r, c => by simp [Imm] at c
  | _, _, .dct h r, c => by simp [Imm] at c
theorem Dvs.imm {H H' : Hp} (t : ∀ a xs, H a = some (.tup xs) → H' a = some (.tup xs)) : ∀ {v : List V} {d : List PyData}, Dvs H v d → ImmAll d = true → Dvs H' v d
  | _, _, .nil, _ => .nil
  | _, _, .cons h r, c => by
    have c' := c
    simp only [ImmAll, Bool.and_eq_true] at c'
    exact .cons (Dv.imm t h c'.1) (Dvs.imm t r c'.2)
end
theorem Mv.dats {S : List Addr} {H H' : Hp} {v : List V} {d : List PyData} (m : Mv S H H') (i : ImmAll d = true) (h : Dvs H v d) : Dvs H' v d := h.imm m.tp i
def LAt (H : Hp) (p : Addr) (ds : List PyData) : Prop := ∃ xs, H p = some (.lst xs) ∧ Dvs H xs ds ∧ ImmAll ds = true
theorem LAt.dv {H : Hp} {p : Addr} {ds : List PyData} (h : LAt H p ds) : Dv H (.ref p) (.list ds) := let ⟨_, e, d, _⟩ := h; .lst (.of e) d
theorem LAt.keeps {H H' : Hp} {p : Addr} {ds : List PyData} (s : Same H H') (h : LAt H p ds) : LAt H' p ds := let ⟨xs, e, d, i⟩ := h; ⟨xs, s _ _ e, d.keeps s, i⟩
theorem LAt.mv {S : List Addr} {H H' : Hp} {p : Addr} {ds : List PyData} (m : Mv S H H') (n : p ∉ S) (h : LAt H p ds) : LAt H' p ds := let ⟨xs, e, d, i⟩ := h; ⟨xs, m.at n e, m.dats i d, i⟩
theorem LAt.ne {H : Hp} {p q : Addr} {ds : List PyData} (h : LAt H p ds) (hn : H q = none) : p ≠ q := let ⟨_, e, _, _⟩ := h; ne_of_none e hn
theorem lat_upd {H : Hp} {p : Addr} {xs : List V} {ds : List PyData} (hn : H p = none) (d : Dvs H xs ds) (i : ImmAll ds = true) : LAt (upd H p (.lst xs)) p ds := ⟨xs, upd_same, d.keeps (same_upd hn), i⟩
theorem notin1 {p q : Addr} (h : p ≠ q) : p ∉ [q] := by simpa using h
theorem small {n m : Nat} (h : n ≤ m) (hm : m ≤ 4000 := by decide) : n ≤ sizeLine := Nat.le_trans h (Nat.le_trans hm (by decide))
theorem smaller {n : Nat} (h : n ≤ 4000) : n < sizeLine := Nat.lt_of_le_of_lt h (by decide)
section
variable {σ : St} {H : Hp} {Q : VK} {D : Ends} {K : PySem.W.Frag} {p : Addr} {ds : List PyData}
theorem r_bm {T : String} {r : V → List V → Hp → VK → Prop} {to : TE} {t : TA} (h : to σ H fun x H1 => tyV K T x H1 ∧ t σ H1 fun xs H2 => r x xs H2 Q) : tBM K T r to t σ H Q := h
theorem r_tyL {R : Prop} (hp : LAt H p ds) (h : R) : tyV K "list" (.ref p) H ∧ R := let ⟨xs, e, _, _⟩ := hp; ⟨.inl ⟨rfl, xs, SqL.of e⟩, h⟩
theorem r_app {y : V} {d : PyData} (hp : LAt H p ds) (hl : ds.length ≤ 4000) (hy : Dv H y d) (hi : Imm d = true) (h : ∀ H2, Mv [p] H H2 → LAt H2 p (ds ++ [d]) → Q .non H2) : rAppend (.ref p) [y] H Q := by
  obtain ⟨xs, e, dv, i⟩ := hp
  have m : Mv [p] H (upd H p (.lst (xs ++ [y]))) := .of_upd e (by intro _ z; cases z)
  refine ⟨p, xs, y, rfl, rfl, e, by rw [dv.length]; exact smaller hl, h _ m ⟨_, upd_same, m.dats (immAll_append i (by simp [ImmAll, hi])) (dv.append (.cons hy .nil)), immAll_append i (by simp [ImmAll, hi])⟩⟩
theorem r_lstA {xs : List V} (hl : xs.length ≤ sizeLine) (hd : Dvs H xs ds) (hi : ImmAll ds = true) (k : ∀ p H2, Same H H2 → H p = none → LAt H2 p ds → Q (.ref p) H2) : LstP xs H Q :=
  ⟨hl, ds, hd, fun p H2 s n e d _ => k p H2 s n ⟨xs, e, d, hi⟩⟩
end
end L2

namespace L2
open PySem PySem.Spec PyProof.Rows PySem.W
mutual
theorem Dv.fn {H : Hp} : ∀ {v : V} {d e : PyData}, Dv H v d → Dv H v e → Imm d = true → d = e
  | _, _, _, .non, h, _ => by cases h; rfl
  | _, _, _, .bl b, h, _ => by cases h; rfl
  | _, _, _, .int i, h, _ => by cases h; rfl
  | _, _, _, .str x, h, _ => by cases h; rfl
  | _, _, _, .tup h r, h2, c => by
    cases h2 with
    | tup h' r' =>
      have c' := (by simpa [Imm] using c : ImmAll _ = true)
      rw [h] at h'
      cases h'
      rw [Dvs.fn r r' c']
    | lst h' r' =>
      rcases h' with h' | ⟨o, h'⟩ <;> rw [h] at h' <;> cases h'
    | dct h' r' => rw [h] at h'; cases h'
  | _, _, _, .lst h r, _, c => by simp [Imm] at c
  | _, _, _, .dct h r, _, c => by simp [Imm] at c
theorem Dvs.fn {H : Hp} : ∀ {v : List V} {d e : List PyData}, Dvs H v d → Dvs H v e → ImmAll d = true → d = e
  | _, _, _, .nil, h, _ => by cases h; rfl
  | _, _, _, .cons h r, h2, c => by
    have c' := c
    simp only [ImmAll, Bool.and_eq_true] at c'
    cases h2 with
    | cons h' r' => rw [Dv.fn h h' c'.1, Dvs.fn r r' c'.2]
end
theorem Dvs.perm {α : Type} {H : Hp} {g : α → PyData} {xs ys : List V} (p0 : ys.Perm xs) : ∀ {cs : List α}, Dvs H xs (cs.map g) → ∃ cs' : List α, cs'.Perm cs ∧ Dvs H ys (cs'.map g) := by
  have p := p0.symm
  clear p0
  induction p with
  | nil => intro cs h; exact ⟨cs, .refl _, h⟩
  | cons x _ ih =>
    intro cs h
    cases cs with
    | nil => cases h
    | cons c cs =>
      cases h with
      | cons h r =>
        obtain ⟨cs', p', h'⟩ := ih r
        exact ⟨c :: cs', p'.cons c, .cons h h'⟩
  | swap x y l =>
    intro cs h
    cases cs with
    | nil => cases h
    | cons c cs =>
      cases h with
      | cons h r =>
        cases cs with
        | nil => cases r
        | cons c2 cs =>
          cases r with
          | cons h2 r => exact ⟨c2 :: c :: cs, .swap c c2 cs, .cons h2 (.cons h r)⟩
  | trans _ _ ih1 ih2 =>
    intro cs h
    obtain ⟨c1, p1, h1⟩ := ih1 h
    obtain ⟨c2, p2, h2⟩ := ih2 h1
    exact ⟨c2, p2.trans p1, h2⟩
theorem Dvs.mem {α : Type} {H : Hp} {g : α → PyData} : ∀ {xs : List V} {cs : List α}, Dvs H xs (cs.map g) → ∀ v ∈ xs, ∃ c ∈ cs, Dv H v (g c)
  | _, [], .nil, _, h => nomatch h
  | _, c :: cs, .cons h r, v, hv => by
    rcases List.mem_cons.mp hv with rfl | hv
    · exact ⟨c, List.mem_cons_self, h⟩
    · obtain ⟨c', hc, hd⟩ := Dvs.mem r v hv
      exact ⟨c', List.mem_cons_of_mem _ hc, hd⟩
theorem Dvs.pairwise {α β : Type} {H : Hp} {g : α → PyData} {key : α → β} {kf : V → β} {R : β → β → Prop} (hk : ∀ v c, Dv H v (g c) → kf v = key c) : ∀ {xs : List V} {cs : List α}, Dvs H xs (cs.map g) → xs.Pairwise (fun x y => R (kf x) (kf y)) → cs.Pairwise (fun c d => R (key c) (key d))
  | _, [], .nil, _ => .nil
  | _, c :: cs, .cons h r, p => by
    rw [List.pairwise_cons] at p ⊢
    refine ⟨fun d hd => ?_, Dvs.pairwise hk r p.2⟩
    obtain ⟨i, hi⟩ := List.getElem?_of_mem hd
    obtain ⟨x, hx, hv⟩ := r.get (i := i) (d := g d) (by rw [List.getElem?_map, hi]; rfl)
    have := p.1 x (List.mem_of_getElem? hx)
    rw [hk _ _ h, hk _ _ hv] at this
    exact this
theorem Dv.lst_inv {H : Hp} {v : V} {ds : List PyData} (h : Dv H v (.list ds)) : ∃ a xs, v = .ref a ∧ (∀ K : PySem.W.Frag, SqL K H a xs) ∧ Dvs H xs ds := by
  cases h with
  | lst h r => exact ⟨_, _, rfl, fun _ => .inl h, r⟩
section
variable {σ : St} {H : Hp} {Q : VK} {D : Ends} {K : PySem.W.Frag} {p : Addr} {v : V} {ds : List PyData}
theorem r_sortKT {sp : Sp} {t : TA} (h : t σ H fun vs H1 => SortKP sp K vs H1 Q) : tSortK K sp t σ H Q := h
theorem r_sortK {α : Type} {sp : Sp} {cs : List α} (g : α → PyData) (key : α → Int × Str) (hg : ∀ c, Imm (g c) = true) (hinj : ∀ c c', g c = g c' → key c = key c') (hl : Dv H v (.list (cs.map g))) (h64 : cs.length < 64)
    (hk : ∀ c v H', c ∈ cs → Same H H' → Dv H' v (g c) → sp [v] H' (fun y H2 => Same H' H2 ∧ Dv H2 y (.tuple [.int (key c).1, .str (key c).2])) E0)
    (k : ∀ q H' (cs' : List α), Same H H' → H q = none → cs'.Perm cs → cs'.Pairwise (fun c d => ltIS (key d) (key c) = false) → LAt H' q (cs'.map g) → Q (.ref q) H') : SortKP sp K [v] H Q := by
  obtain ⟨p, xs, rfl, e, dv⟩ := hl.lst_inv
  classical
  have hkf : ∃ kf : V → Int × Str, ∀ v c, Dv H v (g c) → kf v = key c := by
    refine ⟨fun v => if h : ∃ c, Dv H v (g c) then key h.choose else (0, ⟨#[]⟩), fun v c hv => ?_⟩
    have h : ∃ c, Dv H v (g c) := ⟨c, hv⟩
    show (if h : ∃ c, Dv H v (g c) then key h.choose else (0, ⟨#[]⟩)) = key c
    rw [dif_pos h]
    exact hinj _ _ (Dv.fn h.choose_spec hv (hg _))
  obtain ⟨kf, hkf⟩ := hkf
  refine ⟨p, xs, kf, rfl, e K, by rw [dv.length, List.length_map]; exact h64, fun v hv H' sm => ?_, fun l ys H' sm hn hn' ord => ?_⟩
  · obtain ⟨c, hc, hd⟩ := dv.mem v hv
    rw [hkf v c hd]
    exact hk c v H' hc sm (hd.keeps sm)
  · obtain ⟨pm, pw⟩ := ord
    obtain ⟨cs', pc, dv'⟩ := dv.perm pm
    have sm2 : Same H (upd H' l (.lst ys)) := sm.trans (same_upd hn')
    exact k l _ cs' sm2 hn pc (Dvs.pairwise (R := fun a b => ltIS b a = false) hkf dv' pw) ⟨ys, upd_same, dv'.keeps sm2, immAll_map hg _⟩
def LCT (te : TE) (N : Option V → Hp → Prop) (σ2 : St) (b : Bool) (H3 : Hp) : Prop := if b = true then te σ2 H3 (fun y H4 => N (some y) H4) else N none H3
theorem r_lcT {k : Nat} {tl : TE} {g : TG} {tc : TT} {te : TE} (h : tl σ H fun x H1 => ∃ a, x = .ref a ∧ (∃ xs, SqL K H1 a xs) ∧ LCW k g tc te (LCFin Q) σ (Itl K a) H1) : tLC k (iList K tl) g tc te σ H Q := h
theorem r_lc {k : Nat} {g : TG} {tc : TT} {te : TE} {α : Type} {cs : List α} {gd : α → PyData} (pf : α → Bool) (fd : α → PyData) (hl : Dv H v (.list (cs.map gd))) (hlen : cs.length ≤ 4000) (hi : ∀ c, Imm (fd c) = true)
    (turn : ∀ x c H' (N : Option V → Hp → Prop), c ∈ cs → Same H H' → Dv H' x (gd c) → (pf c = true → ∀ y H4, Same H' H4 → Dv H4 y (fd c) → N (some y) H4) → (pf c = false → ∀ H3, Same H' H3 → N none H3) →
      g x (List.replicate k none ++ σ) H' fun σ2 H2 => tc σ2 H2 fun b H3 => LCT te N σ2 b H3)
    (kk : ∀ q H', Same H H' → H q = none → LAt H' q ((cs.filter pf).map fd) → Q (.ref q) H') : ∃ a, v = .ref a ∧ (∃ xs, SqL K H a xs) ∧ LCW k g tc te (LCFin Q) σ (Itl K a) H := by
  obtain ⟨p, xs, rfl, e, dv⟩ := hl.lst_inv
  have hl0 : SqL K H p xs := e K
  have hxl : xs.length = cs.length := by rw [dv.length, List.length_map]
  refine ⟨p, rfl, ⟨xs, hl0⟩, fun i m acc H' => i ≤ cs.length ∧ m = cs.length - i ∧ Same H H' ∧ Dvs H' acc (((cs.take i).filter pf).map fd), ⟨cs.length, Nat.zero_le _, rfl, Same.refl _, by simpa using Dvs.nil⟩, ?_⟩
  rintro i m acc H' ⟨hi1, hm, sm, hacc⟩
  have hl' : SqL K H' p xs := Same.seq sm hl0
  have hal : acc.length ≤ cs.length := by
    rw [hacc.length, List.length_map]
    exact Nat.le_trans (List.length_filter_le _ _) (by rw [List.length_take]; omega)
  by_cases hc : i = cs.length
  · left
    refine ⟨⟨xs, hl', by omega⟩, fun q hq => ?_⟩
    rw [hc, List.take_length] at hacc
    have sm2 : Same H (upd H' q (.lst acc)) := sm.trans (same_upd hq)
    exact kk q _ sm2 (sm.none hq) ⟨acc, upd_same, hacc.keeps (same_upd hq), immAll_map hi _⟩
  · right
    have hlt : i < cs.length := by omega
    have hlx : i < xs.length := by omega
    refine ⟨⟨xs, xs[i], hl', List.getElem?_eq_getElem hlx⟩, smaller (by omega), fun x H2 hy => ?_⟩
    obtain ⟨rfl, hy⟩ := hy
    have hx := hy xs hl'
    have hcs : cs[i]? = some cs[i] := List.getElem?_eq_getElem hlt
    obtain ⟨x', hx', hd⟩ := dv.get (i := i) (d := gd cs[i]) (by rw [List.getElem?_map, hcs]; rfl)
    rw [hx] at hx'
    cases hx'
    have htk : cs.take (i + 1) = cs.take i ++ [cs[i]] := by rw [List.take_add_one, hcs]; rfl
    exact turn x cs[i] H2 (fun o H4 => match o with | some y => ∃ m', m' < m ∧ i + 1 ≤ cs.length ∧ m' = cs.length - (i + 1) ∧ Same H H4 ∧ Dvs H4 (acc ++ [y]) (((cs.take (i + 1)).filter pf).map fd) | none => ∃ m', m' < m ∧ i + 1 ≤ cs.length ∧ m' = cs.length - (i + 1) ∧ Same H H4 ∧ Dvs H4 acc (((cs.take (i + 1)).filter pf).map fd))
      (List.getElem_mem hlt) sm (hd.keeps sm)
      (fun hp y H4 s4 d4 => ⟨cs.length - (i + 1), by omega, hlt, rfl, sm.trans s4, by
        rw [htk, List.filter_append, List.map_append]
        simp only [List.filter_cons, hp, if_true, List.filter_nil, List.map_cons, List.map_nil]
        exact Dvs.append (hacc.keeps s4) (.cons d4 .nil)⟩)
      (fun hp H3 s3 => ⟨cs.length - (i + 1), by omega, hlt, rfl, sm.trans s3, by
        rw [htk, List.filter_append, List.map_append]
        simp only [List.filter_cons, hp, Bool.false_eq_true, if_false, List.filter_nil, List.map_nil, List.append_nil]
        exact hacc.keeps s3⟩)
end
end L2
namespace L2
open PySem PySem.Spec PyProof.Rows PySem.W
def lcCheck (scope sc : Scope) (N M : List Str) : Bool :=
  (scope.kind == .function) && scope.names.all (fun y => y.2 != .cell) && scope.names.all (fun y => y.2 != .local || scope.names.lookup y.1 == some .local) &&
    scope.names.all (fun y => y.2 != .free || (sc.names.lookup y.1 == some .cell || sc.names.lookup y.1 == some .free)) && (M.length == N.length) &&
    (M.zip N).all fun p => (p.1 == p.2 && scope.names.lookup p.1 == some .free) || scope.names.lookup p.1 == none
theorem lcn {X : Cx} {T M : List Str} {scope : Scope} (sc : Scope) (N : List Str) (hs : X.env.scope = sc) (hN : X.N = N) (h : lcCheck scope sc N M = true) : LCNames X T M scope := by
  unfold lcCheck at h
  simp only [Bool.and_eq_true, List.all_eq_true, Bool.or_eq_true, bne_iff_ne, beq_iff_eq, ne_eq] at h
  obtain ⟨⟨⟨⟨⟨h1, h2⟩, h3⟩, h4⟩, h5⟩, h6⟩ := h
  refine ⟨h1, h2, fun y hy e => ?_, fun y hy e => ?_, by rw [hN]; exact h5, fun i x hx => ?_⟩
  · rcases h3 y hy with z | z
    · exact absurd e z
    · exact z
  · rw [hs]
    rcases h4 y hy with z | z
    · exact absurd e z
    · exact z
  · have hi : i < M.length := (List.getElem?_eq_some_iff.mp hx).1
    have hiN : i < N.length := by omega
    have hz : (M.zip N)[i]? = some (x, N[i]) := by
      rw [List.getElem?_zip_eq_some]
      exact ⟨hx, List.getElem?_eq_getElem hiN⟩
    rcases h6 _ (List.mem_of_getElem? hz) with ⟨a, b⟩ | a
    · left
      refine ⟨?_, b⟩
      rw [hN, List.getElem?_eq_getElem hiN]
      have a' : x = N[i] := a
      rw [a']
    · exact .inr a
section
variable {σ : St} {H : Hp} {Q : VK} {D : Ends} {K : PySem.W.Frag} {p : Addr} {v : V} {ds : List PyData}
theorem r_ixSt {z : Str} {i : Int} {c : Nat} (hl : z.length ≤ sizeLine) (hi : atI z.cps.toList i = some c) (h : Q (.str ⟨#[c]⟩) H) : rIxK K (.str z) (.int i) H Q := .inl (.inr ⟨z, i, c, rfl, rfl, hl, hi, h⟩)
def rAddS : R2 := fun x y H Q => ∃ i j, x = .str i ∧ y = .str j ∧ i.length + j.length ≤ sizeLine ∧ Q (.str (i ++ j)) H
theorem op_addS {X : Cx} : OpR X (binaryOp .Add) rAddS := op_add_str
theorem r_addS {i j : Str} (hl : i.length + j.length ≤ 4000) (h : Q (.str (i ++ j)) H) : rAddS (.str i) (.str j) H Q := ⟨i, j, rfl, rfl, small hl, h⟩
def rListOf (K : PySem.W.Frag) : List V → Hp → VK → Prop := fun xs H Q => ∃ p ys, xs = [.ref p] ∧ (SqL K H p ys ∨ SqT K H p ys) ∧ ∀ l, H l = none → Q (.ref l) (upd H l (.lst ys))
theorem call_listOf {X : Cx} : CallR X (.type "list") (rListOf X.K) := call_list_of
theorem r_listOf (hp : Dv H v (.list ds)) (i : ImmAll ds = true) (k : ∀ q H', Same H H' → H q = none → LAt H' q ds → Q (.ref q) H') : rListOf K [v] H Q := by
  obtain ⟨p, xs, rfl, e, dv⟩ := hp.lst_inv
  exact ⟨p, xs, rfl, .inl (e K), fun l hl => k l _ (same_upd hl) hl (lat_upd hl dv i)⟩
theorem cut_nat (xs : List V) (i j : Nat) : cutV xs (some (i : Int)) (some (j : Int)) = (xs.drop i).take (j - i) := by
  unfold cutV
  rw [HT.sIx_nat, HT.sIx_nat]
  by_cases h : i ≤ xs.length
  · rw [Nat.min_eq_left h]
    by_cases h2 : j ≤ xs.length
    · rw [Nat.min_eq_left h2]
    · rw [Nat.min_eq_right (by omega)]
      rw [List.take_of_length_le (by rw [List.length_drop]; omega), List.take_of_length_le (by rw [List.length_drop]; omega)]
  · rw [List.drop_of_length_le (show xs.length ≤ min i xs.length by omega), List.drop_of_length_le (show xs.length ≤ i by omega), List.take_nil, List.take_nil]
theorem r_sl {te : TE} {tl th : TO} {r : V → Option Int → Option Int → Hp → VK → Prop} (h : te σ H fun x H1 => tl σ H1 fun l H2 => th σ H2 fun u H3 => r x l u H3 Q) : tSl r te tl th σ H Q := h
theorem r_part {t : TE} {R : Option Int → Hp → Prop} (h : t σ H fun x H1 => ∃ i, x = .int i ∧ R (some i) H1) : tPart t σ H R := h
theorem r_noPart {R : Option Int → Hp → Prop} (h : R none H) : tNoPart σ H R := h
theorem r_partI {i : Int} {R : Int → Prop} (h : R i) : ∃ j, V.int i = .int j ∧ R j := ⟨i, rfl, h⟩
theorem r_cutN {ns : List Int} (i j : Nat) (hp : SqL K H p (ns.map V.int)) (k : ∀ q H', Same H H' → H q = none → LAt H' q (((ns.drop i).take (j - i)).map PyData.int) → Q (.ref q) H') : rSlL K (.ref p) (some (i : Int)) (some (j : Int)) H Q := by
  refine ⟨p, _, rfl, hp, fun q hq => ?_⟩
  rw [cut_nat, ← List.map_drop, ← List.map_take]
  exact k q _ (same_upd hq) hq ⟨_, upd_same, Dvs.ints _, immAll_map (fun _ => rfl) _⟩
theorem inV_strs {H : Hp} {x : Str} : ∀ {xs : List V} {ss : List Str}, Dvs H xs (ss.map PyData.str) → xs.all flatV = true ∧ inV (.str x) xs = ss.contains x
  | _, [], .nil => ⟨rfl, rfl⟩
  | _, s :: ss, .cons h r => by
    cases h
    obtain ⟨a, b⟩ := inV_strs (x := x) r
    refine ⟨by simpa [flatV] using a, ?_⟩
    show (eqV (.str s) (.str x) || inV (.str x) _) = _
    rw [b]
    show ((s == x) || ss.contains x) = _
    rw [List.contains_cons, show (s == x) = (x == s) from by rw [Bool.eq_iff_iff, beq_iff_eq, beq_iff_eq]; exact eq_comm]
theorem r_inS {ss : List Str} {x : Str} (hp : Dv H v (.list (ss.map PyData.str))) (h : Q (.bl (ss.contains x)) H) : rIn K false (.str x) v H Q := by
  obtain ⟨p, xs, rfl, e, dv⟩ := hp.lst_inv
  obtain ⟨a, b⟩ := inV_strs (x := x) dv
  refine ⟨p, xs, rfl, .inl (e K), rfl, a, ?_⟩
  rw [b]; exact h
def Unp3 (K : PySem.W.Frag) (x : V) (i j l : Nat) (R : St → Hp → Prop) (σ : St) (H : Hp) : Prop := gTup K 3 (gCons (gName i) (gCons (gName j) (gCons (gName l) gNil))) x σ H R
theorem forD {α : Type} {cs : List α} {gd : α → PyData} {g : TG} {tb : TS} (hl : Dv H v (.list (cs.map gd))) (Pv : Nat → St → Hp → Prop) (h0 : Pv 0 σ H) (hk : ∀ i σ H', i ≤ cs.length → Pv i σ H' → ∀ a xs, v = .ref a → SqL K H a xs → SqL K H' a xs)
    (hs : ∀ i c x σ H', cs[i]? = some c → Pv i σ H' → (Imm (gd c) = true → (∀ a xs, H a = some (.tup xs) → H' a = some (.tup xs)) → Dv H' x (gd c)) → (Same H H' → Dv H' x (gd c)) → g x σ H' fun σ2 H2 => tb { D with nx := Pv (i + 1), ct := Pv (i + 1), bk := D.nx } σ2 H2) (hd : ∀ σ H', Pv cs.length σ H' → D.nx σ H') : ForL K v g tb D σ H := by
  obtain ⟨p, xs, rfl, e, dv⟩ := hl.lst_inv
  have hxl : xs.length = cs.length := by rw [dv.length, List.length_map]
  refine forL (e K) Pv h0 (fun i σ H' hi hp => hk i σ H' (by omega) hp p xs rfl (e K)) (fun i x σ H' hx hp => ?_) (fun σ H' hp => hd σ H' (by rw [← hxl]; exact hp))
  have hi : i < cs.length := by have := (List.getElem?_eq_some_iff.mp hx).1; omega
  obtain ⟨x', hx', hd'⟩ := dv.get (i := i) (d := gd cs[i]) (by rw [List.getElem?_map, List.getElem?_eq_getElem hi]; rfl)
  rw [hx] at hx'
  cases hx'
  exact hs i cs[i] x σ H' (List.getElem?_eq_getElem hi) hp (fun im t => hd'.imm t im) (fun s => hd'.keeps s)
end
end L2
namespace L2
theorem dm_trans {H H1 H2 : Hp} (a : ∀ x, H1 x = none → H x = none) (b : ∀ x, H2 x = none → H1 x = none) : ∀ x, H2 x = none → H x = none := fun x h => a x (b x h)
theorem dm_use {H H' : Hp} {p : PySem.Addr} (s : ∀ x, H' x = none → H x = none) (h : H' p = none) : H p = none := s p h
theorem Same.dm' {H H' : Hp} (s : Same H H') : ∀ x, H' x = Option.none → H x = Option.none := (s.mv (S := [])).dm
theorem ours1 {S : List PySem.Addr} {H : Hp} {p : PySem.Addr} (h : p ∈ S ∨ H p = none) : ∀ a ∈ [p], a ∈ S ∨ H a = none := fun a ha => by
  have : a = p := by simpa using ha
  subst this; exact h
end L2
namespace L2
open PySem
theorem atI_mapI {α β : Type} [Inhabited α] {f : α → β} {xs : List α} {i : Int} (h0 : 0 ≤ i) (h1 : i < xs.length) : atI (xs.map f) i = some (f (xs.getD i.toNat default)) := by
  obtain ⟨m, rfl⟩ := Int.eq_ofNat_of_zero_le h0
  have hm : m < xs.length := by omega
  refine atI_nat ?_
  rw [List.getElem?_map, List.getElem?_eq_getElem hm]
  simp [hm]
end L2
namespace L2
open PySem
theorem r_lenM {α : Type} {g : α → PyData} {xs : List α} {K : PySem.W.Frag} {H : Hp} {Q : VK} {v : V} (hs : Dv H v (.list (xs.map g))) (h : Q (.int (xs.length : Nat)) H) : rLenK K [v] H Q := r_lenK (.inr hs) (by rw [List.length_map]; exact h)
end L2
namespace L2
open PySem
theorem r_gname {i : Nat} {v : V} {σ : St} {H : Hp} {R : St → Hp → Prop} (h : R (σ.set i (some v)) H) : gName i v σ H R := h
theorem Mv.sameN {p : Addr} {H H1 H2 : Hp} (s : Same H H1) (m : Mv [p] H1 H2) (n : H p = Option.none) : Same H H2 := fun a o e => m.kp a o (notin1 (ne_of_none e n)) (s a o e)
end L2
namespace L2
open PySem
theorem Mv.sq {K : PySem.W.Frag} {S : List Addr} {H H' : Hp} {a : Addr} {xs : List V} (m : Mv S H H') (n : a ∉ S) (h : SqL K H a xs) : SqL K H' a xs := by
  rcases h with (h | ⟨o, h⟩) | h
  · exact .inl (.inl (m.at n h))
  · exact .inl (.inr ⟨o, m.at n h⟩)
  · exact .inr h
end L2
namespace L2
open PySem
theorem r_lct {te : TE} {N : Option V → Hp → Prop} {σ2 : St} {b : Bool} {H3 : Hp} (h1 : b = true → te σ2 H3 (fun y H4 => N (some y) H4)) (h2 : b = false → N none H3) : LCT te N σ2 b H3 := by
  unfold LCT
  cases b with
  | true => rw [if_pos rfl]; exact h1 rfl
  | false => rw [if_neg (by simp)]; exact h2 rfl
end L2
namespace L2
open PySem PySem.Spec PyProof.Rows
section
variable {X : Cx} {K : PySem.W.Frag} {a b e : Expr} {es : List Expr} {ta : TE} {pos : Pos}
theorem ix_KK (h : X.K = K) : IxR X (rIxK K) := by rw [← h]; exact ix_K
theorem op_inK (h : X.K = K) : OpR X (compareOp .In) (rIn K false) := by rw [← h]; exact op_in_seq
theorem pt_truthK (h : X.K = K) (ha : PE X a ta) (he : ∀ whole, isTrue a X.env whole = (do let v ← whole; standAt a.pos; holding [v] (truthy v))) : PT X a (fun σ H Q => ta σ H fun x H' => ∃ k, TruV K x H' k ∧ Q k H') := by rw [← h]; exact pt_truth ha he
theorem pg_tupK {k : Nat} {t : TGs} {n : Nat} (h : X.K = K) (hc : X.calm = true) (hs : PGs X es t) (hn : (assignEach es X.env).length = n := by rfl) (hst : (assignEach es X.env).findIdx? (·.1) = none := by rfl) : PG X (.Tuple es k pos) (gTup K n t) := by rw [← h]; exact pg_tup hc hs hn hst
end
end L2

namespace L2
open PySem PySem.Spec PyProof.Rows PySem.W
inductive DKs (H : Hp) : List (Key × V) → List (Str × PyData) → Prop where
  | nil : DKs H [] []
  | cons {k : Str} {v : V} {d : PyData} {kvs : List (Key × V)} {m : List (Str × PyData)} (h : Dv H v d) (i : Imm d = true) (r : DKs H kvs m) : DKs H ((.inr k, v) :: kvs) ((k, d) :: m)
theorem DKs.imm {H H' : Hp} (t : ∀ a xs, H a = some (.tup xs) → H' a = some (.tup xs)) : ∀ {kvs : List (Key × V)} {m : List (Str × PyData)}, DKs H kvs m → DKs H' kvs m
  | _, _, .nil => .nil
  | _, _, .cons h i r => .cons (h.imm t i) i (DKs.imm t r)
theorem DKs.length {H : Hp} : ∀ {kvs : List (Key × V)} {m : List (Str × PyData)}, DKs H kvs m → kvs.length = m.length
  | _, _, .nil => rfl
  | _, _, .cons _ _ r => by simp [DKs.length r]
def lkp (m : List (Str × PyData)) (k : Str) : Option PyData := (m.find? fun kv => decide (kv.1 = k)).map (·.2)
def putD (m : List (Str × PyData)) (k : Str) (d : PyData) : List (Str × PyData) := if (m.any fun kv => decide (kv.1 = k)) = true then m.map (fun kv => if kv.1 = k then (kv.1, d) else kv) else m ++ [(k, d)]
def dropD (m : List (Str × PyData)) (k : Str) : List (Str × PyData) := m.filter fun kv => decide (kv.1 ≠ k)
theorem inr_iff {a b : Str} : ((Sum.inr a : Key) = Sum.inr b) = (a = b) := propext ⟨fun h => Sum.inr.inj h, fun h => by rw [h]⟩
theorem DKs.val {H : Hp} {k : Str} : ∀ {kvs : List (Key × V)} {m : List (Str × PyData)}, DKs H kvs m → (∀ d, lkp m k = some d → ∃ v, valV kvs (.inr k) = some v ∧ Dv H v d) ∧ (lkp m k = none → valV kvs (.inr k) = none)
  | _, _, .nil => ⟨fun d h => by simp [lkp] at h, fun _ => rfl⟩
  | _, _, .cons (k := j) h i r => by
    obtain ⟨h1, h2⟩ := DKs.val (k := k) r
    by_cases e : j = k
    · subst e
      refine ⟨fun d hd => ⟨_, valV_pos rfl, ?_⟩, fun hd => by simp [lkp] at hd⟩
      simp [lkp] at hd
      subst hd; exact h
    · have e' : (Sum.inr j : Key) ≠ .inr k := fun z => e (Sum.inr.inj z)
      have el : ∀ (d : PyData) (m : List (Str × PyData)), lkp ((j, d) :: m) k = lkp m k := fun d m => by simp [lkp, List.find?_cons, e]
      refine ⟨fun d hd => ?_, fun hd => ?_⟩
      · rw [el] at hd
        obtain ⟨v, hv, hd'⟩ := h1 d hd
        exact ⟨v, by rw [valV_neg e']; exact hv, hd'⟩
      · rw [el] at hd
        rw [valV_neg e']; exact h2 hd
theorem DKs.any {H : Hp} {k : Str} : ∀ {kvs : List (Key × V)} {m : List (Str × PyData)}, DKs H kvs m → (kvs.any fun kv => decide (kv.1 = .inr k)) = m.any fun kv => decide (kv.1 = k)
  | _, _, .nil => rfl
  | _, _, .cons h i r => by
    simp only [List.any_cons, DKs.any r, inr_iff]
theorem DKs.append {H : Hp} : ∀ {kvs kvs' : List (Key × V)} {m m' : List (Str × PyData)}, DKs H kvs m → DKs H kvs' m' → DKs H (kvs ++ kvs') (m ++ m')
  | _, _, _, _, .nil, s => s
  | _, _, _, _, .cons h i r, s => .cons h i (DKs.append r s)
theorem DKs.repl {H : Hp} {k : Str} {v : V} {d : PyData} (hv : Dv H v d) (hi : Imm d = true) : ∀ {kvs : List (Key × V)} {m : List (Str × PyData)}, DKs H kvs m → DKs H (kvs.map fun kv => if kv.1 = .inr k then (kv.1, v) else kv) (m.map fun kv => if kv.1 = k then (kv.1, d) else kv)
  | _, _, .nil => .nil
  | _, _, .cons (k := j) h i r => by
    rw [List.map_cons, List.map_cons]
    by_cases e : j = k
    · subst e
      rw [if_pos rfl, if_pos rfl]
      exact .cons hv hi (DKs.repl hv hi r)
    · rw [if_neg (fun z => e (Sum.inr.inj z)), if_neg e]
      exact .cons h i (DKs.repl hv hi r)
theorem DKs.put {H : Hp} {k : Str} {v : V} {d : PyData} {kvs : List (Key × V)} {m : List (Str × PyData)} (r : DKs H kvs m) (hv : Dv H v d) (hi : Imm d = true) : DKs H (putK kvs (.inr k) v) (putD m k d) := by
  unfold putK putD
  rw [r.any]
  by_cases h : (m.any fun kv => decide (kv.1 = k)) = true
  · rw [if_pos h, if_pos h]; exact r.repl hv hi
  · rw [if_neg h, if_neg h]; exact r.append (.cons hv hi .nil)
def DAt (H : Hp) (p : Addr) (m : List (Str × PyData)) : Prop := ∃ kvs, H p = some (.dK kvs) ∧ DKs H kvs m
theorem DAt.keeps {H H' : Hp} {p : Addr} {m : List (Str × PyData)} (s : Same H H') (h : DAt H p m) : DAt H' p m := let ⟨kvs, e, d⟩ := h; ⟨kvs, s _ _ e, d.imm fun a xs e => s _ _ e⟩
theorem DAt.mv {S : List Addr} {H H' : Hp} {p : Addr} {m : List (Str × PyData)} (v : Mv S H H') (n : p ∉ S) (h : DAt H p m) : DAt H' p m := let ⟨kvs, e, d⟩ := h; ⟨kvs, v.at n e, d.imm v.tp⟩
theorem DAt.ne {H : Hp} {p q : Addr} {m : List (Str × PyData)} (h : DAt H p m) (hn : H q = none) : p ≠ q := let ⟨_, e, _⟩ := h; ne_of_none e hn
section
variable {σ : St} {H : Hp} {Q : VK} {D : Ends} {K : PySem.W.Frag} {p : Addr} {m : List (Str × PyData)} {k : Str}
theorem r_dnew (h : ∀ p H2, Same H H2 → H p = none → DAt H2 p [] → Q (.ref p) H2) : tDNewK σ H Q := fun p hp => h p _ (same_upd hp) hp ⟨[], upd_same, .nil⟩
theorem r_dputT {td ty tv : TE} (h : tv σ H fun v H1 => td σ H1 fun x H2 => ty σ H2 fun y H3 => ∃ a H4, x = .ref a ∧ DPut H3 a y v H4 ∧ D.nx σ H4) : sDPut td ty tv D σ H := h
theorem r_dput {v : V} {d : PyData} {R : Hp → Prop} (hp : DAt H p m) (hl : m.length ≤ 4000) (hv : Dv H v d) (hi : Imm d = true) (h : ∀ H2, Mv [p] H H2 → DAt H2 p (putD m k d) → R H2) : ∃ a H4, V.ref p = .ref a ∧ DPut H a (.str k) v H4 ∧ R H4 := by
  obtain ⟨kvs, e, dk⟩ := hp
  have mv : Mv [p] H (upd H p (.dK (putK kvs (.inr k) v))) := .of_upd e (by intro _ z; cases z)
  exact ⟨p, _, rfl, DPut.k (k := .inr k) e (by rw [dk.length]; exact smaller hl), h _ mv ⟨_, upd_same, (dk.put hv hi).imm mv.tp⟩⟩
theorem r_dgetT {td ty : TE} (h : td σ H fun x H1 => ty σ H1 fun y H2 => ∃ a v, x = .ref a ∧ DGet H2 a y (some v) ∧ Q v H2) : tDGet td ty σ H Q := h
theorem r_dget {d : PyData} {R : V → Prop} (hp : DAt H p m) (hk : lkp m k = some d) (h : GotD H d fun v _ => R v) : ∃ a v, V.ref p = .ref a ∧ DGet H a (.str k) (some v) ∧ R v := by
  obtain ⟨kvs, e, dk⟩ := hp
  obtain ⟨v, hv, hd⟩ := (dk.val (k := k)).1 d hk
  exact ⟨p, v, rfl, by rw [← hv]; exact DGet.k (k := .inr k) e, h.use hd⟩
def rLenD : List V → Hp → VK → Prop := fun xs H Q => ∃ a kvs, xs = [V.ref a] ∧ H a = some (.dK kvs) ∧ Q (.int kvs.length) H
theorem r_chain {r r' : R2} {ta tb tc : TE} (h : ta σ H fun x H1 => tb σ H1 fun y H2 => r x y H2 fun z H3 => ∃ k, z = .bl k ∧ if k = true then tc σ H3 fun u H4 => r' y u H4 Q else Q (.bl false) H3) : tChain r r' ta tb tc σ H Q := h
def ow : Option Int → V | none => .non | some i => .int i
def owD : Option Int → PyData | none => .none | some i => .int i
end
end L2
namespace L2
end L2
namespace L2
open PySem
theorem forDB {Hb : Hp} {σ : St} {H : Hp} {D : Ends} {K : PySem.W.Frag} {v : V} {α : Type} {cs : List α} {gd : α → PyData} {g : TG} {tb : TS} (hl : Dv Hb v (.list (cs.map gd))) (Pv : Nat → St → Hp → Prop) (h0 : Pv 0 σ H) (hk : ∀ i σ H', i ≤ cs.length → Pv i σ H' → ∀ a xs, v = .ref a → SqL K Hb a xs → SqL K H' a xs)
    (hs : ∀ i c x σ H', cs[i]? = some c → Pv i σ H' → (Imm (gd c) = true → (∀ a xs, Hb a = some (.tup xs) → H' a = some (.tup xs)) → Dv H' x (gd c)) → (Same Hb H' → Dv H' x (gd c)) → g x σ H' fun σ2 H2 => tb { D with nx := Pv (i + 1), ct := Pv (i + 1), bk := D.nx } σ2 H2) (hd : ∀ σ H', Pv cs.length σ H' → D.nx σ H') : ForL K v g tb D σ H := by
  obtain ⟨p, xs, rfl, e, dv⟩ := hl.lst_inv
  have hxl : xs.length = cs.length := by rw [dv.length, List.length_map]
  refine forL (hk 0 σ H (Nat.zero_le _) h0 p xs rfl (e K)) Pv h0 (fun i σ H' hi hp => hk i σ H' (by omega) hp p xs rfl (e K)) (fun i x σ H' hx hp => ?_) (fun σ H' hp => hd σ H' (by rw [← hxl]; exact hp))
  have hi : i < cs.length := by have := (List.getElem?_eq_some_iff.mp hx).1; omega
  obtain ⟨x', hx', hd'⟩ := dv.get (i := i) (d := gd cs[i]) (by rw [List.getElem?_map, List.getElem?_eq_getElem hi]; rfl)
  rw [hx] at hx'
  cases hx'
  exact hs i cs[i] x σ H' (List.getElem?_eq_getElem hi) hp (fun im t => hd'.imm t im) (fun s => hd'.keeps s)
end L2
namespace L2
open PySem
theorem lay_ints : ∀ ts : List Int, PyData.canLayAll0 (ts.map PyData.int) = true
  | [] => rfl
  | t :: ts => by rw [List.map_cons, PyData.canLayAll0, lay_ints ts]; rfl
end L2

namespace L2
open PySem PySem.Spec PyProof.Rows PySem.W
def Its (x : Str) : It := ⟨fun i _ => i < x.cps.size, fun i H v H' => H' = H ∧ ∃ c, x.cps[i]? = some c ∧ v = .str ⟨#[c]⟩, fun i _ => i = x.cps.size⟩
def iStr (tl : TE) : TI := fun σ H R => tl σ H fun v H1 => ∃ x, v = .str x ∧ R (Its x) H1
section
variable {X : Cx} {tg : Expr}
def rLeS : R2 := fun x y H Q => ∃ i j, x = .str i ∧ y = .str j ∧ Q (.bl (!ltS j i)) H
def rAll : List V → Hp → VK → Prop := fun xs H Q => ∃ (v : V) (bs : List Bool), xs = [v] ∧ Dv H v (.list (bs.map PyData.bool)) ∧ Q (.bl (bs.all id)) H
def rAny : List V → Hp → VK → Prop := fun xs H Q => ∃ (v : V) (bs : List Bool), xs = [v] ∧ Dv H v (.list (bs.map PyData.bool)) ∧ Q (.bl (bs.any id)) H
section
variable {σ : St} {H : Hp} {Q : VK} {D : Ends} {K : PySem.W.Frag}
def ForS (x : V) (g : TG) (tb : TS) (D : Ends) (σ : St) (H1 : Hp) : Prop := ∃ z, x = .str z ∧ ∃ W : Nat → Nat → St → Hp → Prop, (∃ m, W 0 m σ H1) ∧ ∀ i m σ H, W i m σ H →
      ((Its z).stop i H ∧ D.nx σ H) ∨ ((Its z).go i H ∧ ∃ N : St → Hp → Prop, (∀ σ' H', N σ' H' → ∃ m', m' < m ∧ W (i + 1) m' σ' H') ∧ ∀ x H', (Its z).yld i H x H' → g x σ H' fun σ2 H2 => tb { D with nx := N, ct := N, bk := D.nx } σ2 H2)
end
end
end L2
namespace L2
open PySem
section
variable {H : Hp} {Q : VK} {K : PySem.W.Frag}
theorem r_lenSt {z : Str} (hl : z.length ≤ 4000) (h : Q (.int (z.length : Nat)) H) : rLenK K [.str z] H Q := .inl (.inr ⟨z, rfl, small hl, h⟩)
def rNinS : R2 := fun x y H Q => ∃ i j, x = .str i ∧ y = .str j ∧ Q (.bl (!(!(Builtin.Str.occurrences j i 0 j.length 1).isEmpty))) H
def rInS' : R2 := fun x y H Q => ∃ i j, x = .str i ∧ y = .str j ∧ Q (.bl (!(Builtin.Str.occurrences j i 0 j.length 1).isEmpty)) H
end
end L2

namespace L2
open PySem PySem.Spec PyProof.Rows PySem.W
section
variable {X : Cx}
theorem strs_at {H : Hp} : ∀ {xs : List V} {ss : List Str} {us : List Value}, Dvs H xs (ss.map PyData.str) → Vals xs us → StrsAre us ss
  | _, [], _, .nil, .nil => .nil
  | _, b :: bs, _, .cons h r, .cons q t => by
    cases h
    obtain ⟨tk, rfl⟩ := q
    exact .cons _ _ (strs_at r t)
def rJoin : V → List V → Hp → VK → Prop := fun x vs H Q => ∃ (sep : Str) (v : V) (ss : List Str), x = .str sep ∧ vs = [v] ∧ Dv H v (.list (ss.map PyData.str)) ∧ (ss.map (·.length)).sum + ss.length * sep.length ≤ 16777216 ∧ Q (.str (Txt.join sep ss)) H
end
section
variable {σ : St} {H : Hp} {Q : VK} {D : Ends} {K : PySem.W.Frag} {p : Addr} {ds : List PyData}
end
end L2

namespace L2
open PySem PySem.Calls PyProof.Rows
section
variable {X : Cx} {e k : Expr} {te tk : TE} {pos p2 : Pos}
def rRevL (K : PySem.W.Frag) : V → V → Hp → VK → Prop := fun x y H Q => ∃ a xs, x = .ref a ∧ y = .int (-1) ∧ SqL K H a xs ∧ ∀ p, H p = none → Q (.ref p) (upd H p (.lst xs.reverse))
def tSlR (K : PySem.W.Frag) (te tk : TE) : TE := fun σ H Q => te σ H fun x H1 => tk σ H1 fun y H2 => rRevL K x y H2 Q
end
section
variable {X : Cx}
def rLtS : R2 := fun x y H Q => ∃ i j, x = .str i ∧ y = .str j ∧ Q (.bl (ltS i j)) H
end
section
variable {K : PySem.W.Frag} {σ : St} {H : Hp} {Q : VK} {p : Addr} {ds : List PyData}
end
end L2

namespace L2
open PySem PySem.Spec PyProof.Rows PySem.W
def rSlS : V → Option Int → Option Int → Hp → VK → Prop := fun x lo hi H Q => ∃ z : Str, x = .str z ∧ z.length ≤ 4000 ∧ ∀ y : Str, (∀ c ∈ y.cps.toList, c ∈ z.cps.toList) → y.length ≤ z.length → Q (.str y) H
theorem idx_len (lo hi : Option Int) (n : Nat) : (Builtin.Str.strSliceIndices lo hi 1 n).length ≤ n := by
  unfold Builtin.Str.strSliceIndices sliceRange
  simp only [List.length_map, List.length_range, Int.ediv_one, show (1 : Int) > 0 by decide, if_true]
  cases lo <;> cases hi <;> simp only [] <;> (repeat' split) <;> omega
section
variable {X : Cx}
def UpS (ss : List Str) : Prop := ss.Pairwise fun a b => ltS b a = false
theorem up_of_rising : ∀ (r : List Str) (p : Str), risingS p r = true → (∀ x ∈ r, ltS x p = false) ∧ UpS r
  | [], _, _ => ⟨fun x hx => (by cases hx), List.Pairwise.nil⟩
  | y :: r, p, h => by
    unfold risingS at h
    rw [Bool.and_eq_true] at h
    obtain ⟨h1, h2⟩ := h
    have h1' : ltS y p = false := by
      have : ltCps y.cps.toList p.cps.toList = false := by simpa using h1
      rw [ltCps_eq] at this
      exact this
    obtain ⟨a, b⟩ := up_of_rising r y h2
    refine ⟨fun x hx => ?_, List.pairwise_cons.mpr ⟨a, b⟩⟩
    rcases List.mem_cons.mp hx with rfl | hx
    · exact h1'
    · exact ltS_ntr (a x hx) h1'
theorem up_of_sorted {ss : List Str} (h : sortedS ss = true) : UpS ss := by
  cases ss with
  | nil => exact List.Pairwise.nil
  | cons x r => obtain ⟨a, b⟩ := up_of_rising r x h; exact List.pairwise_cons.mpr ⟨a, b⟩
def rSortS : List V → Hp → VK → Prop := fun xs H Q => ∃ (v : V) (ss : List Str), xs = [v] ∧ Dv H v (.list (ss.map PyData.str)) ∧ ss.length < 64 ∧ ∀ (q : Addr) (H' : Hp) (ss' : List Str), Same H H' → H q = none → ss'.Perm ss → UpS ss' → LAt H' q (ss'.map PyData.str) → Q (.ref q) H'
theorem vals_strs : ∀ {us : List Value} {ss : List Str}, StrsAre us ss → Vals (ss.map V.str) us
  | _, _, .nil => .nil
  | _, _, .cons _ t r => .cons ⟨t, rfl⟩ (vals_strs r)
theorem dvs_strs {H : Hp} : ∀ (ss : List Str), Dvs H (ss.map V.str) (ss.map PyData.str)
  | [] => .nil
  | x :: r => .cons (.str x) (dvs_strs r)
theorem call_sortS : CallR X (.builtin "sorted") rSortS := by
  intro pins s σ H xs us Q I r h
  obtain ⟨v, ss, rfl, hd, hl, q⟩ := h
  obtain ⟨u, rfl, ru⟩ := vals1 r
  obtain ⟨p, ys, rfl, e, dv⟩ := hd.lst_inv
  obtain ⟨its, rvs, pl, _⟩ := I.list (e X.K)
  cases ru
  have hS := strs_at dv rvs
  refine sorted_strs pl.isList hS (by rw [← rvs.length, dv.length, List.length_map]; exact hl) fun out ss' h1 h2 h3 => ?_
  obtain ⟨ep, he⟩ := sortedAll_at s.heap its out
  have hq : H (s.heap.objs.size + 1) = none := I.hok.fresh (Nat.le_succ _)
  refine ⟨.ref (s.heap.objs.size + 1), upd H (s.heap.objs.size + 1) (.lst (ss'.map V.str)), I.laid (t' := s.toks) (fun b ob q => sortedAll_old q) (Nat.le_succ _) ?_, rfl, q _ _ ss' (same_upd hq) hq h2 (up_of_sorted h3) (lat_upd hq (dvs_strs ss') (immAll_map (fun _ => rfl) _))⟩
  exact ⟨by rw [List.length_map, h2.length_eq]; exact Nat.le_of_lt (smaller (by omega)), out.toList, ep, vals_strs h1, by simpa [seqObj] using he⟩
def rSumL : List V → Hp → VK → Prop := fun xs H Q => ∃ (v : V) (ns : List Int), xs = [v] ∧ Dv H v (.list (ns.map PyData.int)) ∧ Q (.int ns.sum) H
theorem ints_at {H : Hp} : ∀ {xs : List V} {ns : List Int} {us : List Value}, Dvs H xs (ns.map PyData.int) → Vals xs us → IntsAre us ns
  | _, [], _, .nil, .nil => .nil
  | _, _ :: _, _, .cons h r, .cons q t => by
    cases h
    obtain ⟨tk, rfl⟩ := q
    exact .cons _ _ (ints_at r t)
theorem preSum_cons (x : Int) (ns : List Int) : ∀ k, preSum (fun i => (x :: ns).getD i 0) (k + 1) = x + preSum (fun i => ns.getD i 0) k
  | 0 => by simp [preSum]
  | k + 1 => by
    rw [preSum, preSum_cons x ns k, preSum, List.getD_cons_succ]
    omega
theorem preSum_list : ∀ ns : List Int, preSum (fun i => ns.getD i 0) ns.length = ns.sum
  | [] => rfl
  | x :: r => by rw [List.length_cons, preSum_cons, preSum_list r, List.sum_cons]
theorem call_sumL (hc : X.calm = true) : CallR X (.builtin "sum") rSumL := by
  intro pins s σ H xs us Q I r h
  obtain ⟨v, ns, rfl, hd, q⟩ := h
  obtain ⟨u, rfl, ru⟩ := vals1 r
  obtain ⟨p, ys, rfl, e, dv⟩ := hd.lst_inv
  obtain ⟨its, rvs, pl, _⟩ := I.list (e X.K)
  cases ru
  have hI := ints_at dv rvs
  have hlt : p < s.heap.objs.size := by obtain ⟨o, n, e1, _⟩ := pl; exact Heap.lt_size e1
  have hA : X.A.in1.handled = none := I.ok.hd hc
  refine call_sum_walkAnyB (wpAny_pyIter_list pl.isList ?_)
  refine ⟨s.heap.objs.size, _, _, _, _, _, _, fun i => ns.getD i 0, rfl, (Walks.list hA _ p (Nat.ne_of_lt hlt) its.toArray).toS, ⟨⟨_, Heap.get?_push_size _ rfl, rfl, rfl⟩, pl.isList.at fun o e => Heap.get?_push_of_some _ e⟩, ?_, ?_, ?_⟩
  · intro b hb
    rw [Heap.size_push]
    have : b = s.heap.objs.size ∨ b = p := by simpa using hb
    rcases this with rfl | rfl
    · exact Nat.lt_succ_self _
    · exact Nat.lt_succ_of_lt hlt
  · intro i v hv
    obtain ⟨t, ht⟩ := hI.int_at i v (by simpa using hv)
    exact .inl ⟨t, ht⟩
  · intro s' t' hm
    have hn : its.toArray.size = ns.length := by rw [List.size_toArray, hI.length]
    rw [hn, preSum_list]
    obtain ⟨h', g', d', tk', os'⟩ := s'
    have eg : g' = s.gens := hm.gens
    have ed : d' = s.drawn := hm.drawn
    have eo : os' = s.os := hm.os
    subst eg; subst ed; subst eo
    have I1 := I.kept (t' := s.toks) (h' := s.heap.push { cls := Value.type "list_iterator", data := Data.fields #[Value.ref p, Value.int 0 0] }) fun b o e => Heap.get?_push_of_some _ e
    have fp := I.fpOk (H' := H) (Nat.le_refl _) (I.hok.fresh (Nat.le_refl _))
    have I2 := I1.turned (t' := tk') (h' := h') (it := s.heap.objs.size) (fun b o hb e => hm.heap b o (by simpa using hb) e) fp.1 fp.2.1 fp.2.2.2.1 fp.2.2.2.2.1 fp.2.2.2.2.2
    exact ⟨.int ns.sum, H, I2, ⟨t', rfl⟩, q⟩
end
end L2
namespace L2
open PySem PySem.Spec PyProof.Rows PySem.W
section
variable {prog : Program} {w : World} {A : Around} {E : Value → Shared → Prop} {s : Shared} {it l : Addr} {its : Array Value}
end
section
variable {X : Cx} {e : Expr} {te : TE} {p p2 pos pos2 : Pos}
def rRevOf (K : PySem.W.Frag) : V → Hp → VK → Prop := fun x H Q => ∃ a xs, x = .ref a ∧ SqL K H a xs ∧ ∀ q, H q = none → Q (.ref q) (upd H q (.lst xs.reverse))
def tRevOf (K : PySem.W.Frag) (te : TE) : TE := fun σ H Q => te σ H fun x H1 => rRevOf K x H1 Q
end
section
variable {K : PySem.W.Frag} {σ : St} {H : Hp} {Q : VK} {p : Addr} {ds : List PyData} {v : V}
theorem r_sumL {ns : List Int} (hp : Dv H v (.list (ns.map PyData.int))) (h : Q (.int ns.sum) H) : rSumL [v] H Q := ⟨v, ns, rfl, hp, h⟩
theorem r_sortS {ss : List Str} (hp : Dv H v (.list (ss.map PyData.str))) (hl : ss.length < 64) (k : ∀ q H' ss', Same H H' → H q = none → ss'.Perm ss → UpS ss' → LAt H' q (ss'.map PyData.str) → Q (.ref q) H') : rSortS [v] H Q := ⟨v, ss, rfl, hp, hl, k⟩
theorem r_unp4 {x : V} {i j l m : Nat} {d1 d2 d3 d4 : PyData} {R : St → Hp → Prop} (hd : Dv H x (.tuple [d1, d2, d3, d4])) (h : ∀ v1 v2 v3 v4, Dv H v1 d1 → Dv H v2 d2 → Dv H v3 d3 → Dv H v4 d4 → R ((((σ.set i (some v1)).set j (some v2)).set l (some v3)).set m (some v4)) H) :
    gTup K 4 (gCons (gName i) (gCons (gName j) (gCons (gName l) (gCons (gName m) gNil)))) x σ H R := by
  cases hd with
  | tup ha r =>
    cases r with
    | cons h1 r =>
      cases r with
      | cons h2 r =>
        cases r with
        | cons h3 r =>
          cases r with
          | cons h4 r =>
            cases r
            exact ⟨_, _, rfl, .of ha, rfl, _, _, rfl, _, _, rfl, _, _, rfl, _, _, rfl, rfl, h _ _ _ _ h1 h2 h3 h4⟩
end
end L2

namespace L2
open PySem PySem.Spec PyProof.Rows PySem.W
section
variable {P : Program} {w : World} {H : Hp} {h : Heap} {d : Addr} {o : Obj} {kvs : List (Key × V)}
end
section
variable {X : Cx} {pins : List (Addr × Obj)} {σ : St} {H : Hp} {s : Shared} {d : Addr} {o : Obj} {kvs : List (Key × V)}
def tThaw (t : TE) : TE := fun σ H Q => ∃ d kvs, H d = some (.dK kvs) ∧ t σ H fun v H' => (∃ o, H' d = some (.frz o (.dK kvs))) ∧ Q v (upd H' d (.dK kvs))
def thawP (d : Addr) (kvs : List (Key × V)) (R : Hp → Prop) : Hp → Prop := fun H' => (∃ o, H' d = some (.frz o (.dK kvs))) ∧ R (upd H' d (.dK kvs))
def thawD (d : Addr) (kvs : List (Key × V)) (D : Ends) : Ends := { nx := fun z => thawP d kvs (D.nx z), rt := fun z => thawP d kvs (D.rt z), bk := fun z => thawP d kvs (D.bk z), ct := fun z => thawP d kvs (D.ct z) }
def tThawS (t : TS) : TS := fun D σ H => ∃ d kvs, H d = some (.dK kvs) ∧ t (thawD d kvs D) σ H
end
def Itd (d : Addr) (o : Obj) (kvs : List (Key × V)) : It := ⟨fun i H => i < kvs.length ∧ H d = some (.frz o (.dK kvs)), fun i H v H' => H' = H ∧ ∃ kv, kvs[i]? = some kv ∧ v = kV kv.1, fun i H => i = kvs.length ∧ H d = some (.frz o (.dK kvs))⟩
theorem paired_get {α β : Type} {F : α → β → Prop} : ∀ {xs : List α} {ys : List β}, Paired F xs ys → ∀ {i : Nat} {x : α}, xs[i]? = some x → ∃ y, ys[i]? = some y ∧ F x y
  | _, _, .nil, i, x, h => by simp at h
  | _, _, .cons r t, 0, x, h => by
    have e := Option.some.inj h
    exact ⟨_, rfl, e ▸ r⟩
  | _, _, .cons r t, i + 1, x, h => by
    obtain ⟨y, e, q⟩ := paired_get t (i := i) (by simpa using h)
    exact ⟨y, by simpa using e, q⟩
def iDict (tl : TE) : TI := fun σ H R => tl σ H fun v H1 => ∃ d kvs, v = .ref d ∧ H1 d = some (.dK kvs) ∧ ∀ o, R (Itd d o kvs) (upd H1 d (.frz o (.dK kvs)))
end L2
namespace L2
open PySem PySem.Spec PyProof.Rows PySem.W
def DRd (H : Hp) (p : Addr) (m : List (Str × PyData)) : Prop := ∃ kvs, Rd H p (.dK kvs) ∧ DKs H kvs m
theorem DKs.getK {H : Hp} : ∀ {kvs : List (Key × V)} {m : List (Str × PyData)}, DKs H kvs m → ∀ {i : Nat} {kv : Key × V}, kvs[i]? = some kv → ∃ k d, m[i]? = some (k, d) ∧ kv.1 = .inr k ∧ Dv H kv.2 d
  | _, _, .nil, i, kv, h => by simp at h
  | _, _, .cons (k := k) (d := d) hv _ r, 0, kv, h => by
    have e := (Option.some.inj h).symm
    subst e
    exact ⟨k, d, rfl, rfl, hv⟩
  | _, _, .cons _ _ r, i + 1, kv, h => by
    obtain ⟨k, d, e, q⟩ := DKs.getK r (i := i) (by simpa using h)
    exact ⟨k, d, by simpa using e, q⟩
section
variable {σ : St} {H : Hp} {Q : VK} {K : PySem.W.Frag} {p : Addr} {m : List (Str × PyData)} {k : Str}
end
end L2
namespace L2
open PySem PySem.Spec PyProof.Rows PySem.W
section
variable {X : Cx}
def mulS (i : Str) (n : Int) : Str := if n < 1 then Str.empty else if (n == 1 || i.length == 0) = true then i else ⟨(List.replicate n.toNat i.cps).foldl (· ++ ·) #[]⟩
def rMulS : R2 := fun x y H Q => ∃ i n, x = .str i ∧ y = .int n ∧ 0 ≤ n ∧ n ≤ 10 ∧ i.length ≤ 10 ∧ (mulS i n).length ≤ 4000 ∧ Q (.str (mulS i n)) H
def rDPop : V → List V → Hp → VK → Prop := fun x vs H Q => ∃ a kvs k v, x = .ref a ∧ vs = [kV k] ∧ H a = some (.dK kvs) ∧ valV kvs k = some v ∧ Q v (upd H a (.dK (dropK kvs k)))
end
section
variable {σ : St} {H : Hp} {Q : VK} {K : PySem.W.Frag} {p : Addr} {m : List (Str × PyData)} {k : Str}
end
section
variable {σ : St} {H : Hp} {Q : VK} {K : PySem.W.Frag} {p : Addr}
end
section
variable {X : Cx}
def BoolsD (m : List (Str × PyData)) : Prop := ∀ x ∈ m, ∃ b, x.2 = .bool b
def rEqDD : R2 := fun x y H Q => ∃ a b m, x = .ref a ∧ y = .ref b ∧ DAt H a m ∧ DAt H b m ∧ BoolsD m ∧ Q (.bl true) H
end
end L2

namespace L2
open PySem PySem.Spec PyProof.Rows PySem.W
theorem push_other {h : Heap} {o u : Obj} {b : Addr} (e : (h.push o).get? b = some u) (n : b ≠ h.objs.size) : h.get? b = some u := by
  obtain ⟨e1, e2⟩ := Heap.get?_some_iff.mp e
  refine Heap.get?_some_iff.mpr ⟨?_, e2⟩
  cases h
  simpa [Heap.push, Array.getElem?_push, n] using e1
section
variable {prog : Program} {w : World} {K : Type} [DecidableEq K] {knd : KeyKind prog w K} {A : Around} {E : Value → Shared → Prop} {s : Shared} {d : Addr} {kvs : List (K × Value)} {ep : Nat}
end
section
variable {X : Cx}
def rListD : List V → Hp → VK → Prop := fun xs H Q => ∃ p kvs, xs = [.ref p] ∧ Rd H p (.dK kvs) ∧ ∀ q, H q = none → Q (.ref q) (upd H q (.lst (kvs.map fun kv => kV kv.1)))
end
section
variable {σ : St} {H : Hp} {Q : VK} {p : Addr} {m : List (Str × PyData)}
end
def Iti (d : Addr) (o : Obj) (kvs : List (Key × V)) : It := ⟨fun i H => i < kvs.length ∧ H d = some (.frz o (.dK kvs)), fun i H v H' => ∃ t kv, kvs[i]? = some kv ∧ v = .ref t ∧ H t = none ∧ H' = upd H t (.tup [kV kv.1, kv.2]), fun i H => i = kvs.length ∧ H d = some (.frz o (.dK kvs))⟩
def iItems (tl : TE) : TI := fun σ H R => tl σ H fun v H1 => ∃ d kvs, v = .ref d ∧ H1 d = some (.dK kvs) ∧ ∀ o, R (Iti d o kvs) (upd H1 d (.frz o (.dK kvs)))
def ForI (p : Addr) (o : Obj) (kvs : List (Key × V)) (g : TG) (tb : TS) (D : Ends) (σ : St) (H1 : Hp) : Prop := ∃ W : Nat → Nat → St → Hp → Prop, (∃ m, W 0 m σ H1) ∧ ∀ i m σ H, W i m σ H →
  ((Iti p o kvs).stop i H ∧ D.nx σ H) ∨ ((Iti p o kvs).go i H ∧ ∃ N : St → Hp → Prop, (∀ σ' H', N σ' H' → ∃ m', m' < m ∧ W (i + 1) m' σ' H') ∧ ∀ x H', (Iti p o kvs).yld i H x H' → g x σ H' fun σ2 H2 => tb { D with nx := N, ct := N, bk := D.nx } σ2 H2)
section
variable {σ : St} {H : Hp} {D : Ends} {p : Addr} {m : List (Str × PyData)} {g : TG} {tb : TS}
end
section
variable {σ : St} {H : Hp} {K : PySem.W.Frag}
theorem r_unpP {x : V} {i j : Nat} {d1 d2 : PyData} {R : St → Hp → Prop} (hd : Dv H x (.tuple [d1, d2])) (h : ∀ v1 v2, Dv H v1 d1 → Dv H v2 d2 → R ((σ.set i (some v1)).set j (some v2)) H) :
    gTup K 2 (gCons (gName i) (gCons (gName j) gNil)) x σ H R := by
  cases hd with
  | tup ha r =>
    cases r with
    | cons h1 r =>
      cases r with
      | cons h2 r =>
        cases r
        exact ⟨_, _, rfl, .of ha, rfl, _, _, rfl, _, _, rfl, rfl, h _ _ h1 h2⟩
end
end L2

namespace L2
open PySem
def UpA (xs : Array Nat) : Prop := ∀ i j, (hi : i < xs.size) → (hj : j < xs.size) → i < j → xs[i] < xs[j]
theorem below_go {xs : Array Nat} {j : Nat} (up : UpA xs) : ∀ (f lo hi : Nat), hi - lo ≤ f → lo ≤ hi → hi ≤ xs.size → (∀ i, (h : i < xs.size) → i < lo → xs[i] < j) → (∀ i, (h : i < xs.size) → hi ≤ i → j ≤ xs[i]) →
    SetTable.below.go xs j f lo hi ≤ xs.size ∧ (∀ i, (h : i < xs.size) → i < SetTable.below.go xs j f lo hi → xs[i] < j) ∧ ∀ i, (h : i < xs.size) → SetTable.below.go xs j f lo hi ≤ i → j ≤ xs[i] := by
  intro f
  induction f with
  | zero =>
    intro lo hi hf h1 h2 a b
    have e : hi = lo := by omega
    subst e
    exact ⟨h2, a, b⟩
  | succ f ih =>
    intro lo hi hf h1 h2 a b
    unfold SetTable.below.go
    by_cases hlt : lo < hi
    · rw [if_pos hlt]
      have hm : (lo + hi) / 2 < xs.size := by omega
      have hg : xs.getD ((lo + hi) / 2) j = xs[(lo + hi) / 2] := by simp [Array.getD, hm]
      dsimp only
      rw [hg]
      by_cases hx : xs[(lo + hi) / 2] < j
      · rw [if_pos hx]
        refine ih _ _ (by omega) (by omega) h2 (fun i h hi' => ?_) b
        by_cases e : i = (lo + hi) / 2
        · subst e; exact hx
        · exact Nat.lt_trans (up i _ h hm (by omega)) hx
      · rw [if_neg hx]
        refine ih _ _ (by omega) (by omega) (by omega) a (fun i h hi' => ?_)
        by_cases e : i = (lo + hi) / 2
        · subst e; omega
        · have := up _ i hm h (by omega); omega
    · rw [if_neg hlt]
      have e : hi = lo := by omega
      subst e
      exact ⟨h2, a, b⟩
theorem below_at {xs : Array Nat} {j : Nat} (up : UpA xs) : SetTable.below xs j ≤ xs.size ∧ (∀ i, (h : i < xs.size) → i < SetTable.below xs j → xs[i] < j) ∧ ∀ i, (h : i < xs.size) → SetTable.below xs j ≤ i → j ≤ xs[i] :=
  below_go up _ _ _ (by omega) (Nat.zero_le _) (Nat.le_refl _) (fun i _ h => absurd h (Nat.not_lt_zero _)) (fun i h h' => absurd h (by omega))
theorem upA_pw {xs : Array Nat} : UpA xs ↔ xs.toList.Pairwise (· < ·) := by
  rw [List.pairwise_iff_getElem]
  constructor
  · intro h i j hi hj hij
    simpa using h i j (by simpa using hi) (by simpa using hj) hij
  · intro h i j hi hj hij
    have := h i j (by simpa using hi) (by simpa using hj) hij
    rw [Array.getElem_toList, Array.getElem_toList] at this
    exact this
theorem upA_insert {xs : Array Nat} {j : Nat} (up : UpA xs) (hn : xs[SetTable.below xs j]? ≠ some j) : UpA (SetTable.insertAt xs (SetTable.below xs j) j) := by
  obtain ⟨h0, h1, h2⟩ := below_at (j := j) up
  rw [upA_pw, SetTable.toList_insertAt]
  have pw := upA_pw.mp up
  have hd : ∀ x ∈ xs.toList.drop (SetTable.below xs j), j < x := by
    intro x hx
    obtain ⟨k, hk, e⟩ := List.getElem_of_mem hx
    rw [List.getElem_drop] at e
    have hk2 : SetTable.below xs j + k < xs.size := by rw [List.length_drop] at hk; simp at hk; omega
    have e2 : xs[SetTable.below xs j + k] = x := by rw [← e]; simp
    have := h2 _ hk2 (by omega)
    rcases Nat.lt_or_ge j x with q | q
    · exact q
    · have hj : xs[SetTable.below xs j + k] = j := by omega
      rcases Nat.eq_zero_or_pos k with k0 | k0
      · subst k0
        exact absurd (by rw [Array.getElem?_eq_getElem (by omega)]; simpa using hj) hn
      · have a := up (SetTable.below xs j) _ (by omega) hk2 (by omega)
        have b := h2 (SetTable.below xs j) (by omega) (Nat.le_refl _)
        omega
  rw [List.pairwise_append, List.pairwise_cons]
  refine ⟨pw.sublist (List.take_sublist _ _), ⟨hd, pw.sublist (List.drop_sublist _ _)⟩, fun x hx y hy => ?_⟩
  have hxj : x < j := by
    obtain ⟨k, hk, e⟩ := List.getElem_of_mem hx
    rw [List.getElem_take] at e
    rw [List.length_take] at hk
    have hk2 : k < xs.size := by simp at hk; omega
    have := h1 k hk2 (by omega)
    rw [← e]; simpa using this
  rcases List.mem_cons.mp hy with rfl | hy
  · exact hxj
  · exact Nat.lt_trans hxj (hd y hy)
structure Good (t : SetTable) : Prop where
  up : UpA t.place
  nd : t.dummies = #[]
theorem upA_range (n : Nat) : UpA (Array.range n) := fun i j hi hj h => by simpa using h
theorem good_standIn {t : SetTable} {n : Nat} : Good (t.standIn n) := ⟨upA_range n, rfl⟩
theorem good_plain {t : SetTable} {b : Bool} (g : Good t) : Good { t with plain := b } := ⟨g.up, g.nd⟩
theorem has_nil {j : Nat} : SetTable.has #[] j = false := by simp [SetTable.has]
theorem slot_empty {t : SetTable} {j : Nat} (g : Good t) (h : t.slot j = .empty) : t.place[SetTable.below t.place j]? ≠ some j := by
  intro e
  unfold SetTable.slot at h
  simp [e] at h
theorem probe_go {t : SetTable} {f : Nat → Int} {h : Int} (g : Good t) : ∀ (k : Nat) (p : SetTable.Probe) (j : Nat) (d : Option Nat), p.dummy = none → SetTable.probe.go t f h k p = some (.empty j d) → t.slot j = .empty ∧ d = none := by
  intro k
  induction k with
  | zero => intro p j d _ e; simp [SetTable.probe.go] at e
  | succ k ih =>
    intro p j d hp e
    unfold SetTable.probe.go at e
    have adv : ∀ q : SetTable.Probe, q.dummy = none → (t.advance q).dummy = none := by
      intro q hq
      unfold SetTable.advance
      split <;> exact hq
    split at e
    · rename_i hs
      cases e
      exact ⟨hs, hp⟩
    · rename_i hs
      unfold SetTable.slot at hs
      dsimp only at hs
      split at hs
      · cases hs
      · rw [g.nd, has_nil] at hs
        cases hs
    · split at e
      · cases e
      · exact ih _ j d (adv p hp) e
theorem good_layNew {t : SetTable} {es : Array (Int × Value)} {h : Int} {x : Value} (g : Good t) : Good (layNew t es h x).2.1 ∧ (layNew t es h x).2.1.led = t.led := by
  unfold layNew
  split
  · rename_i slot wasD e
    have hs : t.slot slot = .empty := by
      unfold SetTable.freeSlot at e
      split at e
      · rename_i j d hp
        obtain ⟨h1, rfl⟩ := probe_go g _ _ _ _ rfl hp
        cases e
        exact h1
      · cases e
    have hn := slot_empty g hs
    have gp : Good (t.put slot).1 := ⟨upA_insert g.up hn, by unfold SetTable.put; dsimp only; rw [g.nd, has_nil]; rfl⟩
    dsimp only
    unfold SetTable.orStandIn
    split
    · exact ⟨gp, rfl⟩
    · exact ⟨good_standIn, rfl⟩
  · exact ⟨good_standIn, rfl⟩
theorem fst_live {α : Type} (g : Nat → Option α) : ∀ l : List Nat, ((l.filterMap fun j => (g j).map (j, ·)).map (·.1)) = l.filter fun j => (g j).isSome
  | [] => rfl
  | j :: r => by
    rw [List.filterMap_cons, List.filter_cons]
    cases hg : g j with
    | none => simpa using fst_live g r
    | some a => simpa using fst_live g r
theorem good_laid {mask finger moves : Nat} {led plain : Bool} {hs : Array Int} {t : SetTable} {o : Array Nat} (e : SetTable.laid mask finger moves led plain hs = some (t, o)) : Good t ∧ t.led = led := by
  unfold SetTable.laid at e
  cases hl : SetTable.layClean mask hs with
  | none => rw [hl] at e; cases e
  | some owner =>
    rw [hl] at e
    have e' := Option.some.inj e
    cases e'
    refine ⟨⟨?_, rfl⟩, rfl⟩
    rw [upA_pw]
    show List.Pairwise _ (List.map _ _)
    rw [fst_live]
    exact List.pairwise_lt_range.filter _
theorem good_relay {t : SetTable} {es : Array (Int × Value)} {n : Nat} : Good (relayAll t es n).2.1 ∧ (relayAll t es n).2.1.led = t.led := by
  unfold relayAll
  split
  · rename_i t' order e
    have := good_laid e
    dsimp only
    split
    · exact this
    · exact ⟨good_standIn, rfl⟩
  · exact ⟨good_standIn, rfl⟩
end L2
namespace L2
open PySem
section
variable {prog : Program} {w : World} {A : Around} {E : Value → Shared → Prop} {s : Shared}
def SetG (prog : Program) (w : World) (h : Heap) (a : Addr) (S : Int → Bool) (n : Nat) : Prop :=
  ∃ o es ep t, h.get? a = some o ∧ o.ExactSet ∧ o.data = .set es ep t ∧ ElemsOf (intKind prog w) es.toList ∧ (∀ k, S k = true ↔ ∃ e ∈ es.toList, (intKind prog w).is k e.2 = true) ∧ es.size < scanBound ∧ t.fits es.size = true ∧ es.size = n ∧ Good t ∧ t.led = !w.params.followText "set-order"
theorem SetG.at {h h' : Heap} {a : Addr} {S : Int → Bool} {n : Nat} (x : SetG prog w h a S n) (k : ∀ o, h.get? a = some o → h'.get? a = some o) : SetG prog w h' a S n := by
  obtain ⟨o, es, ep, t, ho, r⟩ := x
  exact ⟨o, es, ep, t, k o ho, r⟩
theorem g_store {h : Heap} {a : Addr} {o : Obj} {es es1 : Array (Int × Value)} {ep : Nat} {t t1 : SetTable} {S : Int → Bool} (ho : h.get? a = some o) (hx : o.ExactSet) (hd : o.data = .set es ep t)
    (h1 : ElemsOf (intKind prog w) es1.toList) (h2 : ∀ k, S k = true ↔ ∃ e ∈ es1.toList, (intKind prog w).is k e.2 = true) (h3 : es1.size < scanBound) (h4 : t1.fits es1.size = true) (h5 : Good t1) (h6 : t1.led = !w.params.followText "set-order") :
    (h.update a (Obj.putSet es1 t1)).get? a = some { o with data := .set es1 (ep + 1) t1 } ∧ SetG prog w (h.update a (Obj.putSet es1 t1)) a S es1.size := by
  obtain ⟨e, _⟩ := SetOf_store (knd := intKind prog w) ho hx hd h1 h2 h3 h4
  exact ⟨e, _, es1, ep + 1, t1, e, hx, rfl, h1, h2, h3, h4, rfl, h5, h6⟩
theorem g_tail {g : Bool → Sem Unit} (hg : ∀ (b : Bool) (s1 : Shared) (R : Unit → Shared → Prop), R () s1 → wpAny (model prog w) A (g b) R E s1) {a : Addr} {o : Obj} {es es1 : Array (Int × Value)} {ep : Nat} {t t1 : SetTable} {S : Int → Bool} {wd : Bool} {R : Option Bool → Shared → Prop}
    (ho : s.heap.get? a = some o) (hx : o.ExactSet) (hd : o.data = .set es ep t) (h1 : ElemsOf (intKind prog w) es1.toList) (h2 : ∀ k, S k = true ↔ ∃ e ∈ es1.toList, (intKind prog w).is k e.2 = true) (h3 : es1.size < scanBound) (h4 : t1.fits es1.size = true) (h5 : Good t1) (h6 : t1.led = !w.params.followText "set-order")
    (k : ∀ h', Heap.SameBut a s.heap h' → SetG prog w h' a S es1.size → R (some true) { s with heap := h' }) :
    wpAny (model prog w) A (do
      storeSet a es1 t1
      if (!wd && t1.tooFull) = true then do
          g (relayAll t1 es1 (SetTable.grown es1.size)).2.2
          storeSet a (relayAll t1 es1 (SetTable.grown es1.size)).1 (relayAll t1 es1 (SetTable.grown es1.size)).2.1
          pure (some true)
        else pure (some true)) R E s := by
  obtain ⟨e1, g1⟩ := g_store (prog := prog) (w := w) ho hx hd h1 h2 h3 h4 h5 h6
  refine wpAny_bind (wpAny_storeSet_of ho hd ?_ (fits_of_scanBound h3))
  have sb := Heap.SameBut.update s.heap a (Obj.putSet es1 t1)
  by_cases c : (!wd && t1.tooFull) = true
  · rw [if_pos c]
    have p1 := relayAll_perm t1 es1 (SetTable.grown es1.size)
    have p2 := relayAll_fits t1 es1 (SetTable.grown es1.size)
    obtain ⟨p3, p4⟩ := good_relay (t := t1) (es := es1) (n := SetTable.grown es1.size)
    have sz : (relayAll t1 es1 (SetTable.grown es1.size)).1.size = es1.size := by rw [← Array.length_toList, p1.length_eq, Array.length_toList]
    have q2 : ∀ k, S k = true ↔ ∃ e ∈ (relayAll t1 es1 (SetTable.grown es1.size)).1.toList, (intKind prog w).is k e.2 = true := fun k => by
      rw [h2 k]
      exact ⟨fun ⟨e, m, i⟩ => ⟨e, p1.mem_iff.mpr m, i⟩, fun ⟨e, m, i⟩ => ⟨e, p1.mem_iff.mp m, i⟩⟩
    have h3' : (relayAll t1 es1 (SetTable.grown es1.size)).1.size < scanBound := by rw [sz]; exact h3
    obtain ⟨_, g2⟩ := g_store (prog := prog) (w := w) e1 hx rfl (h1.perm p1) q2 h3' p2 p3 (p4.trans h6)
    refine wpAny_bind (hg _ _ _ (wpAny_bind (wpAny_storeSet_of e1 rfl ?_ (fits_of_scanBound h3'))))
    rw [sz] at g2
    exact wpAny_pure (k _ (sb.trans (Heap.SameBut.update _ a _)) g2)
  · rw [if_neg c]
    exact wpAny_pure (k _ sb g1)
theorem g_add {a : Addr} {S : Int → Bool} {n : Nat} {k : Int} {x : Value} {Q : Bool → Shared → Prop} (hk : (intKind prog w).is k x = true) (hc : x.scannable = true) (hS : SetG prog w s.heap a S n) (hr : n + 1 < scanBound)
    (h : ∀ h', Heap.SameBut a s.heap h' → SetG prog w h' a (fun i => S i || decide (i = k)) (if S k then n else n + 1) → Q (!S k) { s with heap := h' }) : wpAny (model prog w) A (setAddHashed a x ((intKind prog w).hash k)) Q E s := by
  obtain ⟨o, es, ep, t, ho, hx, hd, h1, h2, h3, h4, h5, h6, h7⟩ := hS
  unfold setAddHashed setAddHashedIn
  refine wpAny_holding (wpAny_bind (wpAny_setState_of ho hd h4 ?_))
  dsimp only
  rw [byScan_of hc h3 h1]
  simp only [if_true]
  unfold setAddByScan
  refine wpAny_bind (wpAny_bind (wpAny_rule (wpAny_bind (wpAny_setScan_of hk ho hd h4 h1 ?_))))
  cases hf : List.findIdx? (fun e => (intKind prog w).is k e.2) es.toList with
  | some j =>
    obtain ⟨hj, hp, _⟩ := List.findIdx?_eq_some_iff_getElem.mp hf
    have e : S k = true := (h2 k).mpr ⟨_, List.getElem_mem hj, hp⟩
    rw [e] at h
    dsimp only
    refine wpAny_pure (wpAny_pure ?_)
    have z := h s.heap (Heap.SameBut.refl a s.heap) ⟨o, es, ep, t, ho, hx, hd, h1, fun i => by
      rw [Bool.or_eq_true, decide_eq_true_eq, ← h2 i]
      exact ⟨fun q => q.elim id fun z => z ▸ e, .inl⟩, h3, h4, by simpa using h5, h6, h7⟩
    cases s
    exact z
  | none =>
    have e : S k = false := by
      cases hb : S k with
      | false => rfl
      | true =>
        obtain ⟨y, m, i⟩ := (h2 k).mp hb
        rw [List.findIdx?_eq_none_iff.mp hf y m] at i
        cases i
    rw [e] at h
    dsimp only
    have p1 := layNew_perm t es ((intKind prog w).hash k) x
    have p2 := layNew_fits t es ((intKind prog w).hash k) x
    obtain ⟨p3, p4⟩ := good_layNew (es := es) (h := (intKind prog w).hash k) (x := x) h6
    generalize layNew t es ((intKind prog w).hash k) x = L at p1 p2 p3 p4 ⊢
    obtain ⟨es1, t1, wd, gv⟩ := L
    dsimp only at p1 p2 p3 p4 ⊢
    rw [Array.toList_push] at p1
    have sz : es1.size = n + 1 := by rw [← Array.length_toList, p1.length_eq, List.length_append, Array.length_toList, h5]; rfl
    have q1 : ElemsOf (intKind prog w) es1.toList := (h1.push hk hc).perm p1
    have q2 := mem_push_iff hk h2 p1
    have q3 : es1.size < scanBound := by rw [sz]; exact hr
    have fin : ∀ h', Heap.SameBut a s.heap h' → SetG prog w h' a (fun i => S i || decide (i = k)) es1.size → Q true { s with heap := h' } := fun h' sb g => by
      rw [sz] at g
      exact h h' sb g
    refine wpAny_bind (m := match gv with | true => rule "set.scan.the-table-gave-way" | false => pure ()) ?_
    have gw : ∀ (b : Bool) (s1 : Shared) (R : Unit → Shared → Prop), R () s1 → wpAny (model prog w) A (match b with | true => rule "set.scan.the-table-gave-way" | false => pure ()) R E s1 := fun b s1 R hq => by
      cases b
      · exact wpAny_pure hq
      · exact wpAny_rule hq
    refine gw gv _ _ ?_
    by_cases c : t1.plain = true
    · rw [if_pos c, hashByValue_scannable 8 hc]
      refine wpAny_bind (wpAny_pure ?_)
      refine g_tail gw ho hx hd q1 q2 q3 ?_ ?_ ?_ fun h' sb g => wpAny_pure (fin h' sb g)
      · split
        · exact p2
        · exact SetTable.fits_plain_off p2
      · split
        · exact p3
        · exact good_plain p3
      · split
        · exact p4.trans h7
        · exact p4.trans h7
    · rw [if_neg c]
      refine wpAny_bind (wpAny_pure ?_)
      simp only [if_true]
      exact g_tail gw ho hx hd q1 q2 q3 p2 p3 (p4.trans h7) fun h' sb g => wpAny_pure (fin h' sb g)
end
end L2
namespace L2
open PySem
theorem erase_perm {α : Type} : ∀ {xs : List α} {i : Nat} (h : i < xs.length), (xs[i] :: xs.eraseIdx i).Perm xs
  | a :: r, 0, _ => .refl _
  | a :: r, i + 1, h => by
    have h2 : i < r.length := by simpa using h
    show (r[i] :: a :: r.eraseIdx i).Perm (a :: r)
    exact (List.Perm.swap a _ _).trans (List.Perm.cons a (erase_perm h2))
theorem pick_go {α : Type} (f : Nat → Nat) : ∀ (n k : Nat) (left : List α) (out : Array α), left.length ≤ n → (pickOrder.go f n k left out).toList.Perm (out.toList ++ left) := by
  intro n
  induction n with
  | zero =>
    intro k left out h
    have : left = [] := List.length_eq_zero_iff.mp (by omega)
    subst this
    simp [pickOrder.go]
  | succ n ih =>
    intro k left out h
    unfold pickOrder.go
    cases left with
    | nil => simp
    | cons a r =>
      have hlt : f k % (a :: r).length < (a :: r).length := Nat.mod_lt _ (by simp)
      rw [List.getElem?_eq_getElem hlt]
      dsimp only
      refine (ih _ _ _ ?_).trans ?_
      · rw [List.length_eraseIdx, if_pos hlt]; simp at h ⊢; omega
      · rw [Array.toList_push, List.append_assoc]
        exact List.Perm.append_left _ (erase_perm hlt)
theorem pick_perm {α : Type} (f : Nat → Nat) (xs : Array α) : (pickOrder f xs).toList.Perm xs.toList := by
  unfold pickOrder
  simpa using pick_go f xs.size 0 xs.toList #[] (by simp)
section
variable {prog : Program} {w : World} {A : Around} {E : Value → Shared → Prop} {s : Shared}
theorem wp_pick {src : Source} {n : Nat} {Q : Nat → Shared → Prop} (hn : n ≠ 0) (h : ∀ i d, i < n → Q i { s with drawn := d }) : wpAny (model prog w) A (choose src n) Q E s := fun Γ p _ => by
  show Sem.wp _ _ (.choose src n .pure) _ _ _ _
  rw [Sem.wp_choose]
  exact ⟨hn, h _ _ (Nat.mod_lt _ (Nat.pos_of_ne_zero hn))⟩
theorem wp_order {α : Type} : ∀ (n : Nat) (xs : List α) {s : Shared} {Q : List α → Shared → Prop}, xs.length ≤ n → (∀ ys d, ys.Perm xs → Q ys { s with drawn := d }) → wpAny (model prog w) A (drawOrder n xs) Q E s := by
  intro n
  induction n with
  | zero =>
    intro xs s Q h k
    have : xs = [] := List.length_eq_zero_iff.mp (by omega)
    subst this
    exact wpAny_pure (k [] s.drawn .nil)
  | succ n ih =>
    intro xs s Q h k
    cases xs with
    | nil => exact wpAny_pure (k [] s.drawn .nil)
    | cons a r =>
      unfold drawOrder
      refine wpAny_bind (wp_pick (by simp) fun i d hi => ?_)
      rw [List.getElem?_eq_getElem hi]
      dsimp only
      refine wpAny_bind (ih _ ?_ fun ys d2 hp => wpAny_pure (k _ _ ?_))
      · rw [List.length_eraseIdx, if_pos hi]; simp at h ⊢; omega
      · exact (List.Perm.cons _ hp).trans (erase_perm hi)
end
end L2
namespace L2
open PySem
set_option maxRecDepth 100000
theorem owner_si : Manifest.owners.lookup (String.ofList ['r', 'o', 't', 'a', 'r', 'e', 't', 'i', '_', 't', 'e', 's'].reverse) = some Manifest.sig_set_iterator := by kernel_rfl
theorem slot_si_next : Slot "set_iterator" "__next__" "set_iterator.__next__" :=
  .of (owner := "set_iterator") (n := "__next__") (by rw [typeLookup_type, builtinLookup_eq_fast]; kernel_rfl) (by decide +kernel) (by decide +kernel) (by decide +kernel) (by first | exact .inl (by decide +kernel) | exact .inr (by decide +kernel)) (by rw [isSubtype_type]; kernel_rfl)
theorem slot_si_iter : Slot "set_iterator" "__iter__" "set_iterator.__iter__" :=
  .of (owner := "set_iterator") (n := "__iter__") (by rw [typeLookup_type, builtinLookup_eq_fast]; kernel_rfl) (by decide +kernel) (by decide +kernel) (by decide +kernel) (by first | exact .inl (by decide +kernel) | exact .inr (by decide +kernel)) (by rw [isSubtype_type]; kernel_rfl)
theorem entry_si_next : entryFor table "set_iterator.__next__" = some Builtin.«set_iterator.__next__» := entryFor_of_tree (by kernel_rfl)
theorem entry_si_iter : entryFor table "set_iterator.__iter__" = some Builtin.«dict_keyiterator.__iter__» :=
  entryFor_alias (id' := "dict_keyiterator.__iter__") (by kernel_rfl) rfl (by decide +kernel) (by kernel_rfl)
theorem args_si_next (a : Value) : argsOk "set_iterator.__next__" ⟨[a], []⟩ := by
  unfold argsOk; rw [signature?_of (id := "set_iterator.__next__") (n := ['_', '_', 't', 'x', 'e', 'n', '_', '_']) (o := ['r', 'o', 't', 'a', 'r', 'e', 't', 'i', '_', 't', 'e', 's']) (by kernel_rfl) owner_si]; kernel_rfl
theorem args_si_iter (a : Value) : argsOk "set_iterator.__iter__" ⟨[a], []⟩ := by
  unfold argsOk; rw [signature?_of (id := "set_iterator.__iter__") (n := ['_', '_', 'r', 'e', 't', 'i', '_', '_']) (o := ['r', 'o', 't', 'a', 'r', 'e', 't', 'i', '_', 't', 'e', 's']) (by kernel_rfl) owner_si]; kernel_rfl
theorem entry_set_iter : entryFor table "set.__iter__" = some Builtin.«frozenset.__iter__» :=
  entryFor_alias (id' := "frozenset.__iter__") (by kernel_rfl) rfl (by decide +kernel) (by kernel_rfl)
def siObj (f : Value) (i : Nat) (a : Addr) (n ep : Nat) : Obj := { cls := .type "set_iterator", data := .fields #[f, rawInt i, .ref a, rawInt n, rawInt ep] }
section
variable {prog : Program} {w : World} {A : Around} {E : Value → Shared → Prop} {s : Shared} {it a : Addr} {o : Obj} {es : Array (Int × Value)} {ep : Nat} {t : SetTable}
theorem si_self {f : Value} {i n : Nat} {Q : Value → Shared → Prop} (h : s.heap.get? it = some (siObj f i a n ep)) (q : Q (.ref it) s) : wpAny (model prog w) A (pyIter (.ref it)) Q E s := by
  have hT : s.TypeIs (.ref it) "set_iterator" := ⟨_, h, rfl⟩
  refine wpAny_pyIter_slot hT slot_si_iter (wpAny_call_entry slot_si_iter hT entry_si_iter ?_ (args_si_iter _))
  show wpAny _ _ (ret (.ref it)) _ _ s
  exact wpAny_pure ⟨_, rfl, "set_iterator", _, hT, slot_si_next.lookup, q⟩
end
end L2
namespace L2
open PySem
section
variable {prog : Program} {w : World} {A : Around} {E : Value → Shared → Prop} {s : Shared} {it a : Addr} {o : Obj} {es : Array (Int × Value)} {ep : Nat} {t : SetTable}
theorem isSub_stop : isSubtype (.type "StopIteration") (.type "StopIteration") = pure true := by rw [isSubtype_type]; kernel_rfl
theorem si_slot {z z2 i : Nat} {x : Value} {Q : Option Value → Shared → Prop} (hit : s.heap.get? it = some (siObj (rawInt z) i a es.size ep)) (ho : s.heap.get? a = some o) (hd : o.data = .set es ep t) (hf : t.fits es.size = true)
    (hn : ∀ (R : Option (Value × Nat) → Shared → Prop) (E : Value → Shared → Prop), R (some (x, z2)) s → wpAny (model prog w) A.in1 (setNext a z i ep) R E s)
    (h : ∀ h', h'.get? it = some (siObj (rawInt z2) (i + 1) a es.size ep) → Heap.SameBut it s.heap h' → Q (some x) { s with heap := h' }) : wpAny (model prog w) A (pyNext (.ref it)) Q E s := by
  have hT : s.TypeIs (.ref it) "set_iterator" := ⟨_, hit, rfl⟩
  unfold pyNext
  refine wpAny_bind (wpAny_attempt (wpAny_callSpecial?_slot (name := Str.ofString "__next__") hT slot_si_next (wpAny_call_entry slot_si_next hT entry_si_next ?_ (args_si_next _))))
  unfold Builtin.«set_iterator.__next__»
  refine wpAny_bind (wpAny_pure ?_)
  refine wpAny_bind (wpAny_fieldsOf hit rfl ?_)
  refine wpAny_bind (wpAny_setEntries_of ho hd hf ?_)
  rw [if_neg (by simp)]
  refine wpAny_bind (hn _ _ ?_)
  dsimp only
  refine wpAny_bind (wpAny_setField_rec hit (by simp) fun h1 e1 b1 => ?_)
  refine wpAny_bind (wpAny_setField_rec (s := { s with heap := h1 }) e1 (by simp) fun h2 e2 b2 => ?_)
  refine wpAny_pure ⟨_, rfl, wpAny_pure (h h2 ?_ (b1.trans b2))⟩
  rw [e2]
  unfold siObj
  have e : ((i + 1 : Nat) : Int) = (i : Int) + 1 := by omega
  rw [e]
  rfl
theorem si_slotEnd {z i : Nat} {Q : Option Value → Shared → Prop} (hh : A.handled = none) (hit : s.heap.get? it = some (siObj (rawInt z) i a es.size ep)) (ho : s.heap.get? a = some o) (hd : o.data = .set es ep t) (hf : t.fits es.size = true)
    (hn : ∀ (R : Option (Value × Nat) → Shared → Prop) (E : Value → Shared → Prop), R none s → wpAny (model prog w) A.in1 (setNext a z i ep) R E s)
    (h : ∀ h', Heap.ExtBut it s.heap h' → Q none { s with heap := h' }) : wpAny (model prog w) A (pyNext (.ref it)) Q E s := by
  have hT : s.TypeIs (.ref it) "set_iterator" := ⟨_, hit, rfl⟩
  unfold pyNext
  refine wpAny_bind (wpAny_attempt (wpAny_callSpecial?_slot (name := Str.ofString "__next__") hT slot_si_next (wpAny_call_entry slot_si_next hT entry_si_next ?_ (args_si_next _))))
  unfold Builtin.«set_iterator.__next__»
  refine wpAny_bind (wpAny_pure ?_)
  refine wpAny_bind (wpAny_fieldsOf hit rfl ?_)
  refine wpAny_bind (wpAny_setEntries_of ho hd hf ?_)
  rw [if_neg (by simp)]
  refine wpAny_bind (hn _ _ ?_)
  dsimp only
  refine wpAny_bind (wpAny_setField_rec hit (by simp) fun h1 e1 b1 => ?_)
  refine wpAny_bind ?_
  simp only [newExc, newTuple]
  refine wpAny_bind (wpAny_newObj_type ?_ (by size_fits))
  refine wpAny_bind (m := firstArgMember _ _) (wpAny_of_eq (a := Value.none) (by first | rfl | (simp only [firstArgMember]; rfl)) ?_)
  refine wpAny_newObj_type ?_ (by size_fits)
  simp only [raiseNew]
  refine wpAny_bind (wpAny_handled ?_)
  rw [show A.in1.handled = none from hh]
  refine wpAny_bind (wpAny_pure (wpAny_throw ?_))
  refine wpAny_bind (wpAny_isInstance (T := "StopIteration") (b := true) ⟨_, Heap.get?_push_size _ rfl, rfl⟩ isSub_stop ?_)
  exact wpAny_pure (h _ ((b1.extBut.push _).push _))
theorem si_drawn {p i j : Nat} {ps : List Nat} {x : Int × Value} {Q : Option Value → Shared → Prop} (hit : s.heap.get? it = some (siObj (.ref p) i a es.size ep)) (hp : s.heap.get? p = some { cls := .type "tuple", data := .seq (ps.map fun (i : Nat) => rawInt i).toArray }) (ho : s.heap.get? a = some o) (hd : o.data = .set es ep t) (hf : t.fits es.size = true)
    (hi : ps[i]? = some j) (hj : es[j]? = some x) (h : ∀ h', h'.get? it = some (siObj (.ref p) (i + 1) a es.size ep) → Heap.SameBut it s.heap h' → Q (some x.2) { s with heap := h' }) : wpAny (model prog w) A (pyNext (.ref it)) Q E s := by
  have hT : s.TypeIs (.ref it) "set_iterator" := ⟨_, hit, rfl⟩
  unfold pyNext
  refine wpAny_bind (wpAny_attempt (wpAny_callSpecial?_slot (name := Str.ofString "__next__") hT slot_si_next (wpAny_call_entry slot_si_next hT entry_si_next ?_ (args_si_next _))))
  unfold Builtin.«set_iterator.__next__»
  refine wpAny_bind (wpAny_pure ?_)
  refine wpAny_bind (wpAny_fieldsOf hit rfl ?_)
  refine wpAny_bind (wpAny_setEntries_of ho hd hf ?_)
  rw [if_neg (by simp)]
  refine wpAny_bind (wpAny_bind (wpAny_load hp (wpAny_pure ?_)))
  dsimp only
  have e0 : (ps.map fun (i : Nat) => rawInt i).toArray[(i : Int).toNat]? = some (rawInt j) := by
    rw [Int.toNat_natCast, List.getElem?_toArray, List.getElem?_map, hi]; rfl
  rw [e0]
  refine wpAny_bind ?_
  unfold setNextDrawn
  refine wpAny_bind (wpAny_setState_of ho hd hf ?_)
  dsimp only
  rw [if_neg (by simp), Int.toNat_natCast, hj]
  refine wpAny_pure (wpAny_bind (wpAny_setField_rec hit (by simp) fun h1 e1 b1 => wpAny_pure ⟨_, rfl, wpAny_pure (h h1 ?_ b1)⟩))
  rw [e1]
  unfold siObj
  have e : ((i + 1 : Nat) : Int) = (i : Int) + 1 := by omega
  rw [e]
  rfl
theorem si_drawnEnd {p i : Nat} {ps : List Nat} {Q : Option Value → Shared → Prop} (hh : A.handled = none) (hit : s.heap.get? it = some (siObj (.ref p) i a es.size ep)) (hp : s.heap.get? p = some { cls := .type "tuple", data := .seq (ps.map fun (i : Nat) => rawInt i).toArray }) (ho : s.heap.get? a = some o) (hd : o.data = .set es ep t) (hf : t.fits es.size = true)
    (hi : ps[i]? = none) (h : ∀ h', Heap.ExtBut it s.heap h' → Q none { s with heap := h' }) : wpAny (model prog w) A (pyNext (.ref it)) Q E s := by
  have hT : s.TypeIs (.ref it) "set_iterator" := ⟨_, hit, rfl⟩
  unfold pyNext
  refine wpAny_bind (wpAny_attempt (wpAny_callSpecial?_slot (name := Str.ofString "__next__") hT slot_si_next (wpAny_call_entry slot_si_next hT entry_si_next ?_ (args_si_next _))))
  unfold Builtin.«set_iterator.__next__»
  refine wpAny_bind (wpAny_pure ?_)
  refine wpAny_bind (wpAny_fieldsOf hit rfl ?_)
  refine wpAny_bind (wpAny_setEntries_of ho hd hf ?_)
  rw [if_neg (by simp)]
  refine wpAny_bind (wpAny_bind (wpAny_load hp (wpAny_pure ?_)))
  dsimp only
  have e0 : (ps.map fun (i : Nat) => rawInt i).toArray[(i : Int).toNat]? = none := by
    rw [Int.toNat_natCast, List.getElem?_toArray, List.getElem?_map, hi]; rfl
  rw [e0]
  refine wpAny_bind (wpAny_setField_rec hit (by simp) fun h1 e1 b1 => ?_)
  refine wpAny_bind (wpAny_setField_rec (s := { s with heap := h1 }) e1 (by simp) fun h2 e2 b2 => ?_)
  refine wpAny_bind ?_
  simp only [newExc, newTuple]
  refine wpAny_bind (wpAny_newObj_type ?_ (by size_fits))
  refine wpAny_bind (m := firstArgMember _ _) (wpAny_of_eq (a := Value.none) (by first | rfl | (simp only [firstArgMember]; rfl)) ?_)
  refine wpAny_newObj_type ?_ (by size_fits)
  simp only [raiseNew]
  refine wpAny_bind (wpAny_handled ?_)
  rw [show A.in1.handled = none from hh]
  refine wpAny_bind (wpAny_pure (wpAny_throw ?_))
  refine wpAny_bind (wpAny_isInstance (T := "StopIteration") (b := true) ⟨_, Heap.get?_push_size _ rfl, rfl⟩ isSub_stop ?_)
  exact wpAny_pure (h _ (((b1.trans b2).extBut.push _).push _))
theorem sn_text {A : Around} {z i : Nat} (hb : w.params.followText "set-order" = true) (ho : s.heap.get? a = some o) (hd : o.data = .set es ep t) (hf : t.fits es.size = true) (R : Option (Value × Nat) → Shared → Prop) (E : Value → Shared → Prop)
    (h : R ((((pickOrder (w.params.setOrder a ep) es).toList.map (·.2))[i]?).map fun x => (x, z)) s) : wpAny (model prog w) A (setNext a z i ep) R E s := by
  unfold setNext
  refine wpAny_bind (wpAny_setState_of ho hd hf ?_)
  unfold setsByText
  refine wpAny_bind (wpAny_bind (wpAny_askSetting (wpAny_pure ?_)))
  dsimp only
  rw [show (model prog w).w.params.followText "set-order" = true from hb, if_pos rfl, if_neg (by simp)]
  refine wpAny_bind ?_
  unfold setWalk setsByText
  refine wpAny_bind (wpAny_setState_of ho hd hf ?_)
  refine wpAny_bind (wpAny_bind (wpAny_askSetting (wpAny_pure ?_)))
  dsimp only
  rw [show (model prog w).w.params.followText "set-order" = true from hb, if_pos rfl]
  refine wpAny_bind (wpAny_askSetting (wpAny_pure (wpAny_pure ?_)))
  dsimp only
  rw [List.getElem?_map, Array.getElem?_toList, Option.map_map] at h
  exact h
theorem sn_places {A : Around} {z i k : Nat} (hb : w.params.followText "set-order" = false) (ho : s.heap.get? a = some o) (hd : o.data = .set es ep t) (hf : t.fits es.size = true) (hdr : (!t.plain && decide (es.size > 1)) = false) (hl : t.led = true) (R : Option (Value × Nat) → Shared → Prop) (E : Value → Shared → Prop)
    (h : R (match es[SetTable.below t.place z]?, t.place[SetTable.below t.place z]? with | some (_, x), some j => some (x, j + 1) | _, _ => none) s) : wpAny (model prog w) A (setNext a z k ep) R E s := by
  unfold setNext
  refine wpAny_bind (wpAny_setState_of ho hd hf ?_)
  unfold setsByText
  refine wpAny_bind (wpAny_bind (wpAny_askSetting (wpAny_pure ?_)))
  dsimp only
  rw [show (model prog w).w.params.followText "set-order" = false from hb, if_neg (by simp)]
  split
  · rename_i c
    have c2 : (!t.plain && decide (es.size > 1)) = true := c
    rw [hdr] at c2
    cases c2
  · refine wpAny_bind ?_
    show wpAny _ _ (if (!t.led && !es.isEmpty) = true then unsupported "set:maker-not-led" else pure ()) _ _ _
    rw [hl, if_neg (by simp)]
    exact wpAny_pure (wpAny_pure h)
theorem below_next {t : SetTable} {i : Nat} (g : Good t) (hi : i < t.place.size) : SetTable.below t.place (t.place[i] + 1) = i + 1 := by
  obtain ⟨h0, h1, h2⟩ := below_at (j := t.place[i] + 1) g.up
  by_cases a : SetTable.below t.place (t.place[i] + 1) ≤ i
  · have := h2 i hi a; omega
  · by_cases b : i + 1 < SetTable.below t.place (t.place[i] + 1)
    · have c : i + 1 < t.place.size := by omega
      have := h1 (i + 1) c b
      have := g.up i (i + 1) hi c (by omega)
      omega
    · omega
theorem below_zero {t : SetTable} (g : Good t) : SetTable.below t.place 0 = 0 := by
  obtain ⟨h0, h1, h2⟩ := below_at (j := 0) g.up
  by_cases a : 0 < SetTable.below t.place 0
  · have := h1 0 (by omega) a; omega
  · omega
theorem walk_text (hh : A.handled = none) (hb : w.params.followText "set-order" = true) (hd : o.data = .set es ep t) (hf : t.fits es.size = true) (hne : a ≠ it) (z : Nat) :
    Walks prog w A it [it, a] [it] es.size (fun i v => ((pickOrder (w.params.setOrder a ep) es).toList.map (·.2))[i]? = some v) (fun i h => h.get? it = some (siObj (rawInt z) i a es.size ep) ∧ h.get? a = some o) where
  sub := fun b hb => by simp at hb; simp [hb]
  frame := fun i h h' st k => ⟨k it (by simp) _ st.1, k a (by simp) _ st.2⟩
  item := fun i s Q E hi st hQ => by
    have hl : ((pickOrder (w.params.setOrder a ep) es).toList.map (·.2)).length = es.size := by rw [List.length_map, (pick_perm _ _).length_eq]; simp
    obtain ⟨x, hx⟩ : ∃ x, ((pickOrder (w.params.setOrder a ep) es).toList.map (·.2))[i]? = some x := ⟨_, List.getElem?_eq_getElem (by rw [hl]; exact hi)⟩
    refine si_slot (z2 := z) st.1 st.2 hd hf (fun R E h => sn_text hb st.2 hd hf R E (by rw [hx]; exact h)) fun h' e sb => ?_
    exact hQ x h' s.toks hx ⟨e, (sb.2 a hne).trans st.2⟩ fun b o hb e => sb.extBut b o (by simpa using hb) e
  done := fun s Q E st hQ => by
    have hl : ((pickOrder (w.params.setOrder a ep) es).toList.map (·.2)).length = es.size := by rw [List.length_map, (pick_perm _ _).length_eq]; simp
    refine si_slotEnd hh st.1 st.2 hd hf (fun R E h => sn_text hb st.2 hd hf R E (by rw [List.getElem?_eq_none (by rw [hl]; exact Nat.le_refl _)]; exact h)) fun h' eb => hQ h' s.toks fun b o hb e => eb b o (by simpa using hb) e
  self := fun i s Q E st q => si_self st.1 q
theorem walk_places (hh : A.handled = none) (hb : w.params.followText "set-order" = false) (hd : o.data = .set es ep t) (hf : t.fits es.size = true) (hg : Good t) (hdr : (!t.plain && decide (es.size > 1)) = false) (hl : t.led = true) (hne : a ≠ it) :
    Walks prog w A it [it, a] [it] es.size (fun i v => (es.toList.map (·.2))[i]? = some v) (fun i h => (∃ z : Nat, SetTable.below t.place z = i ∧ h.get? it = some (siObj (rawInt z) i a es.size ep)) ∧ h.get? a = some o) where
  sub := fun b hb => by simp at hb; simp [hb]
  frame := fun i h h' st k => let ⟨⟨z, e1, e2⟩, e3⟩ := st; ⟨⟨z, e1, k it (by simp) _ e2⟩, k a (by simp) _ e3⟩
  item := fun i s Q E hi st hQ => by
    obtain ⟨⟨z, e1, e2⟩, e3⟩ := st
    have hp : t.place.size = es.size := by unfold SetTable.fits at hf; simp at hf; exact hf.1
    have hi2 : i < t.place.size := by rw [hp]; exact hi
    have hx : (es.toList.map (·.2))[i]? = some es[i].2 := by rw [List.getElem?_map, Array.getElem?_toList, Array.getElem?_eq_getElem hi]; rfl
    refine si_slot (z2 := t.place[i] + 1) (x := es[i].2) e2 e3 hd hf (fun R E h => sn_places (i := i) hb e3 hd hf hdr hl R E (by rw [e1, Array.getElem?_eq_getElem hi, Array.getElem?_eq_getElem hi2]; exact h)) fun h' e sb => ?_
    exact hQ _ h' s.toks hx ⟨⟨_, below_next hg hi2, e⟩, (sb.2 a hne).trans e3⟩ fun b o hb e => sb.extBut b o (by simpa using hb) e
  done := fun s Q E st hQ => by
    obtain ⟨⟨z, e1, e2⟩, e3⟩ := st
    refine si_slotEnd hh e2 e3 hd hf (fun R E h => sn_places (i := 0) hb e3 hd hf hdr hl R E (by rw [e1, Array.getElem?_eq_none (Nat.le_refl _)]; exact h)) fun h' eb => hQ h' s.toks fun b o hb e => eb b o (by simpa using hb) e
  self := fun i s Q E st q => by
    obtain ⟨⟨z, e1, e2⟩, e3⟩ := st
    exact si_self e2 q
theorem walk_drawn {p : Addr} {ps : List Nat} (hh : A.handled = none) (hd : o.data = .set es ep t) (hf : t.fits es.size = true) (hne : a ≠ it) (hnp : p ≠ it) (hps : ps.Perm (List.range es.size)) :
    Walks prog w A it [it, a, p] [it] es.size (fun i v => (ps.map fun j => (es.getD j default).2)[i]? = some v) (fun i h => h.get? it = some (siObj (.ref p) i a es.size ep) ∧ h.get? a = some o ∧ h.get? p = some { cls := .type "tuple", data := .seq (ps.map fun (i : Nat) => rawInt i).toArray }) where
  sub := fun b hb => by simp at hb; simp [hb]
  frame := fun i h h' st k => ⟨k it (by simp) _ st.1, k a (by simp) _ st.2.1, k p (by simp) _ st.2.2⟩
  item := fun i s Q E hi st hQ => by
    have hl : ps.length = es.size := by rw [hps.length_eq, List.length_range]
    have hi2 : i < ps.length := by rw [hl]; exact hi
    have hj : ps[i] < es.size := List.mem_range.mp (hps.mem_iff.mp (List.getElem_mem hi2))
    have hx : (ps.map fun j => (es.getD j default).2)[i]? = some es[ps[i]].2 := by
      rw [List.getElem?_map, List.getElem?_eq_getElem hi2]
      simp [Array.getD, hj]
    refine si_drawn st.1 st.2.2 st.2.1 hd hf (List.getElem?_eq_getElem hi2) (Array.getElem?_eq_getElem hj) fun h' e sb => ?_
    exact hQ _ h' s.toks hx ⟨e, (sb.2 a hne).trans st.2.1, (sb.2 p hnp).trans st.2.2⟩ fun b o hb e => sb.extBut b o (by simpa using hb) e
  done := fun s Q E st hQ => by
    have hl : ps.length = es.size := by rw [hps.length_eq, List.length_range]
    exact si_drawnEnd hh st.1 st.2.2 st.2.1 hd hf (List.getElem?_eq_none (by rw [hl]; exact Nat.le_refl _)) fun h' eb => hQ h' s.toks fun b o hb e => eb b o (by simpa using hb) e
  self := fun i s Q E st q => si_self st.1 q
end
end L2
namespace L2
open PySem
section
variable {prog : Program} {w : World} {A : Around} {E : Value → Shared → Prop} {s : Shared} {it a : Addr} {o : Obj} {es : Array (Int × Value)} {ep : Nat} {t : SetTable}
theorem getD_range {α : Type} [Inhabited α] (es : Array α) : (List.range es.size).map (fun j => es.getD j default) = es.toList := by
  refine List.ext_getElem (by simp) fun i h1 h2 => ?_
  have : i < es.size := by simpa using h1
  simp [Array.getD, this]
theorem iter_set {Q : Value → Shared → Prop} (ho : s.heap.get? a = some o) (hx : o.ExactSet) (hd : o.data = .set es ep t) (hf : t.fits es.size = true) (hg : Good t) (hl : t.led = !w.params.followText "set-order") (hz : es.size < scanBound)
    (h : ∀ (it : Addr) (fp : List Addr) (St : Nat → Heap → Prop) (ord : List Value) (h' : Heap) (d : Drawn), (∀ b u, s.heap.get? b = some u → h'.get? b = some u) → s.heap.objs.size ≤ it → St 0 h' → (∀ b ∈ fp, b < h'.objs.size) → (∀ b ∈ fp, b = a ∨ s.heap.objs.size ≤ b) → it ∈ fp → ord.Perm (es.toList.map (·.2)) →
      (∀ A : Around, A.handled = none → Walks prog w A it fp [it] es.size (fun i v => ord[i]? = some v) St) → Q (.ref it) { s with heap := h', drawn := d }) : wpAny (model prog w) A (pyIter (.ref a)) Q E s := by
  have hT : s.TypeIs (.ref a) "set" := ⟨o, ho, hx.1⟩
  have hal : a < s.heap.objs.size := Heap.lt_size ho
  refine wpAny_pyIter_slot hT F.slot_set_iter (wpAny_call_entry F.slot_set_iter hT entry_set_iter ?_ (F.args_set_iter_1 _))
  unfold Builtin.«frozenset.__iter__»
  refine wpAny_bind (wpAny_pure ?_)
  refine wpAny_bind ?_
  unfold Builtin.Frozenset.sizeOf
  refine wpAny_bind (wpAny_setEntries_of ho hd hf (wpAny_pure ?_))
  refine wpAny_bind ?_
  unfold setDrawn setsByText
  refine wpAny_bind (wpAny_setState_of ho hd hf ?_)
  refine wpAny_bind (wpAny_bind (wpAny_askSetting (wpAny_pure (wpAny_pure ?_))))
  dsimp only
  split
  · rename_i c
    have c2 : (!w.params.followText "set-order" && (!t.plain && decide (es.size > 1))) = true := c
    refine wpAny_bind (wp_order _ _ (by simp) fun ps d hps => ?_)
    have hpl : ps.length = es.size := by rw [hps.length_eq, List.length_range]
    refine wpAny_bind (wpAny_newTuple (hsz := by rw [List.length_map, hpl]; exact fits_of_scanBound hz) ?_)
    refine wpAny_bind (wpAny_setEpoch_of (o := o) (Heap.get?_push_of_some _ ho) hd hf ?_)
    refine wpAny_bind (wpAny_newObj_type (wpAny_pure ⟨_, rfl, "set_iterator", _, ⟨_, Heap.get?_push_size _ rfl, rfl⟩, slot_si_next.lookup, ?_⟩))
    have hsz : ∀ u : Obj, (s.heap.push u).objs.size = s.heap.objs.size + 1 := fun u => Heap.size_push ..
    refine h _ [_, a, s.heap.objs.size] _ (ps.map fun j => (es.getD j default).2) _ d (fun b u e => Heap.get?_push_of_some _ (Heap.get?_push_of_some _ e)) (by rw [hsz]; exact Nat.le_succ _) ⟨Heap.get?_push_size _ rfl, Heap.get?_push_of_some _ (Heap.get?_push_of_some _ ho), Heap.get?_push_of_some _ (Heap.get?_push_size _ rfl)⟩ ?_ ?_ (by simp) ?_ (fun A hh => walk_drawn hh hd hf ?_ ?_ hps)
    · intro b hb
      rw [Heap.size_push, hsz]
      have : b = s.heap.objs.size + 1 ∨ b = a ∨ b = s.heap.objs.size := by simpa using hb
      rcases this with rfl | rfl | rfl
      · exact Nat.lt_succ_self _
      · exact Nat.lt_succ_of_lt (Nat.lt_succ_of_lt hal)
      · exact Nat.lt_succ_of_lt (Nat.lt_succ_self _)
    · intro b hb
      have : b = s.heap.objs.size + 1 ∨ b = a ∨ b = s.heap.objs.size := by simpa using hb
      rcases this with rfl | rfl | rfl
      · exact .inr (Nat.le_succ _)
      · exact .inl rfl
      · exact .inr (Nat.le_refl _)
    · rw [← getD_range es, List.map_map]
      exact hps.map _
    · rw [hsz]; exact Nat.ne_of_lt (Nat.lt_succ_of_lt hal)
    · rw [hsz]; exact Nat.ne_of_lt (Nat.lt_succ_self _)
  · rename_i c
    have c2 : ¬ (!w.params.followText "set-order" && (!t.plain && decide (es.size > 1))) = true := c
    refine wpAny_bind (wpAny_pure ?_)
    refine wpAny_bind (wpAny_setEpoch_of ho hd hf ?_)
    refine wpAny_bind (wpAny_newObj_type (wpAny_pure ⟨_, rfl, "set_iterator", _, ⟨_, Heap.get?_push_size _ rfl, rfl⟩, slot_si_next.lookup, ?_⟩))
    have fpl : ∀ u : Obj, ∀ b ∈ [s.heap.objs.size, a], b < (s.heap.push u).objs.size := by
      intro u b hb
      rw [Heap.size_push]
      have : b = s.heap.objs.size ∨ b = a := by simpa using hb
      rcases this with rfl | rfl
      · exact Nat.lt_succ_self _
      · exact Nat.lt_succ_of_lt hal
    have fpn : ∀ b ∈ [s.heap.objs.size, a], b = a ∨ s.heap.objs.size ≤ b := by
      intro b hb
      have : b = s.heap.objs.size ∨ b = a := by simpa using hb
      rcases this with rfl | rfl
      · exact .inr (Nat.le_refl _)
      · exact .inl rfl
    cases hb : w.params.followText "set-order" with
    | true =>
      exact h _ [s.heap.objs.size, a] _ _ _ s.drawn (fun b u e => Heap.get?_push_of_some _ e) (Nat.le_refl _) ⟨Heap.get?_push_size _ rfl, Heap.get?_push_of_some _ ho⟩ (fpl _) fpn (by simp) ((pick_perm _ _).map _) (fun A hh => walk_text hh hb hd hf (Nat.ne_of_lt hal) 0)
    | false =>
      have hdr : (!t.plain && decide (es.size > 1)) = false := by
        cases q : (!t.plain && decide (es.size > 1)) with
        | false => rfl
        | true => exact absurd (by rw [hb, q]; rfl) c2
      exact h _ [s.heap.objs.size, a] _ _ _ s.drawn (fun b u e => Heap.get?_push_of_some _ e) (Nat.le_refl _) ⟨⟨0, below_zero hg, Heap.get?_push_size _ rfl⟩, Heap.get?_push_of_some _ ho⟩ (fpl _) fpn (by simp) (.refl _) (fun A hh => walk_places hh hb hd hf hg hdr (by rw [hl, hb]; rfl) (Nat.ne_of_lt hal))
end
end L2
namespace L2
open PySem PySem.Spec PyProof.Rows
section
variable {prog : Program} {w : World} {A : Around} {R : Result → Shared → Prop} {it y : Addr} {fp wr : List Addr} {G : Array GenState → Array GenState → Prop} {n : Nat} {Pv : Nat → Value → Prop} {St : Nat → Shared → Prop}
theorem SetG.congr {h : Heap} {a : Addr} {S S' : Int → Bool} {n n' : Nat} (x : SetG prog w h a S n) (e : ∀ k, S k = S' k) (en : n = n') : SetG prog w h a S' n' := by
  have : S = S' := funext e
  subst this; subst en; exact x
theorem g_turns (W : WalksS prog w A.in1 it fp wr G n Pv St) (hy : y ∉ fp) (f : Nat → Int) (hf : ∀ i v, Pv i v → ∃ t, v = .int (f i) t) (hb : n + 1 < scanBound) :
    ∀ (k i : Nat) (s : Shared), n - i = k → i ≤ n → St i s → SetG prog w s.heap y (fun k' => (firstMet f i).any (· == k')) (firstMet f i).length →
      (∀ s', Moved (y :: wr) G s s' → SetG prog w s'.heap y (fun k' => (firstMet f n).any (· == k')) (firstMet f n).length → R (.ok (.ret .none)) s') →
      codeAny (model prog w) A (.builtin "set.update.loop" ⟨[.ref y, .ref it], []⟩) R s := by
  have hyw : y ∉ wr := fun z => hy (W.sub _ z)
  intro k
  induction k with
  | zero =>
    intro i s ek li st hS fin
    obtain rfl : i = n := by omega
    refine codeAny_builtin PyProof.Rows.F.entry_set_update_loop ?_
    rw [Around.under_plainId PyProof.Rows.F.plain_set_update_loop _]
    show wpAny _ A.in1 (pyNext (.ref it) >>= _) _ _ s
    refine wpAny_bind (W.done s _ _ st fun s1 m1 => ?_)
    show wpAny _ A.in1 (ret Value.none) _ _ s1
    exact wpAny_pure (fin s1 (m1.mono fun b z => List.mem_cons_of_mem _ z) (hS.at fun o e => m1.heap y _ hyw e))
  | succ k ih =>
    intro i s ek li st hS fin
    have hin : i < n := by omega
    refine codeAny_builtin PyProof.Rows.F.entry_set_update_loop ?_
    rw [Around.under_plainId PyProof.Rows.F.plain_set_update_loop _]
    show wpAny _ A.in1 (pyNext (.ref it) >>= _) _ _ s
    refine wpAny_bind (W.item i s _ _ hin st fun v s1 hv st1 m1 => ?_)
    obtain ⟨t, rfl⟩ := hf i v hv
    have hS1 := hS.at (h' := s1.heap) fun o e => m1.heap y _ hyw e
    show wpAny _ A.in1 (holding [Value.int (f i) t] (setAdd y (.int (f i) t)) >>= _) _ _ s1
    refine wpAny_bind (wpAny_holding ?_)
    unfold setAdd
    refine wpAny_holding (wpAny_bind ((intKind prog w).pyHash (k := f i) (intKind_is _ _ _ _) ?_))
    have hle := firstMet_length_le f i
    refine g_add (s := { s1 with toks := s1.toks + 1 }) (intKind_is _ _ _ _) rfl hS1 (by omega) fun h2 sb hS2 => ?_
    have hS3 : SetG prog w h2 y (fun k' => (firstMet f (i + 1)).any (· == k')) (firstMet f (i + 1)).length := hS2.congr (fun k' => by rw [firstMet_succ, step_any]) (by rw [firstMet_succ, step_length])
    refine wpAny_pure ⟨plainId_quiet PyProof.Rows.F.plain_set_update_loop _, ih (i + 1) _ (by omega) hin (W.frame _ s1 _ _ st1 (Nat.le_succ _) fun b z o e => ?_) hS3 fun s3 m3 hS4 => ?_⟩
    · rw [sb.2 b (fun z' : b = y => hy (z' ▸ z))]; exact e
    · refine fin s3 (Moved.trans W.gtrans ((m1.mono fun b z => List.mem_cons_of_mem _ z).then_heap (Nat.le_succ _) fun b o z e => ?_) m3) hS4
      rw [sb.2 b (fun z' : b = y => z (z' ▸ List.mem_cons_self))]; exact e
end
section
variable {prog : Program} {w : World} {A : Around} {E : Value → Shared → Prop} {s : Shared}
theorem code_new_set (a : Value) {Q : Value → Shared → Prop} (h : Q (.ref s.heap.objs.size) { s with heap := s.heap.push { cls := .type "set", dict := none, data := .set #[] 0 (.fresh 0 0 (!w.params.followText "set-order")) } }) :
    codeAny (model prog w) A (.call (.builtin "set.__new__") ⟨[.type "set", a], []⟩) (wants Q E) s := by
  refine codeAny_of_tree ?_
  show wpAny _ A.in1 (do checkBuiltinCall "set.__new__" ⟨[.type "set", a], []⟩; again (.builtin "set.__new__" ⟨[.type "set", a], []⟩)) _ _ s
  refine wpAny_bind (wpAny_of_eq (PySem.F.newCall_set_1 a) (wpAny_pure ⟨plainId_quiet PySem.F.plain_set_new _, codeAny_builtin PySem.F.entry_set_new ?_⟩))
  rw [Around.under_plainId PySem.F.plain_set_new _]
  unfold Builtin.«set.__new__» Builtin.Frozenset.newClass
  have hsub := sub_set_self
  obtain ⟨hp, g, d, tk, os⟩ := s
  dsimp only
  wp_walk
  refine wpAny_askSetting (wpAny_pure ?_)
  dsimp only
  simp only [newObj]
  exact wpAny_bind (wpAny_alloc (wpAny_pure (wpAny_pure h)))
theorem g_fresh {h : Heap} {a : Addr} (e : h.get? a = some { cls := .type "set", dict := none, data := .set #[] 0 (.fresh 0 0 (!w.params.followText "set-order")) }) : SetG prog w h a (fun _ => false) 0 :=
  ⟨_, #[], 0, _, e, ⟨rfl, rfl, rfl⟩, rfl, fun e he => by simp at he, fun k => by simp, by decide, by rfl, rfl, ⟨fun i j hi => by simp [SetTable.fresh] at hi, rfl⟩, rfl⟩
set_option maxRecDepth 100000 in
set_option maxHeartbeats 3200000 in
theorem call_set_ints {l : Addr} {its : Array Value} {ns : List Int} {Q : Value → Shared → Prop} (hh : A.handled = none) (hl : s.heap.IsList l its) (hi : IntsAre its.toList ns) (hb : its.size + 1 < scanBound)
    (fin : ∀ (h1 : Heap) (tk : Nat), SetG prog w h1 s.heap.objs.size (fun k' => (firstMet (fun i => ns.getD i 0) its.size).any (· == k')) (firstMet (fun i => ns.getD i 0) its.size).length → (∀ b o, b < s.heap.objs.size → s.heap.get? b = some o → h1.get? b = some o) → Q (.ref s.heap.objs.size) { s with heap := h1, toks := tk }) :
    wpAny (model prog w) A (call (.type "set") [.ref l]) Q E s := by
  obtain ⟨c, tl, hmro⟩ := PySem.F.called_set.mro
  have hmade := PySem.F.called_set.made
  have hsub := PySem.F.called_set.sub
  refine wpAny_call (codeAny_of_tree ?_)
  show wpAny _ _ (callAny (.type "set") _) _ _ _
  refine wpAny_pure ⟨Code.quiet_builtin _ (by decide +kernel), codeAny_builtin PySem.F.entry_type_call ?_⟩
  rw [Around.under_plain (weight_type_call_type "set" [.ref l] []) rfl]
  have n1 := PySem.F.called_set.notType
  have n2 := PySem.F.called_set.canCreate
  have n3 := PySem.F.typeCall_set_1 (.ref l)
  repeat (any_goals (first | assumption | wp_step))
  let ob : Obj := { cls := .type "set", dict := none, data := .set #[] 0 (.fresh 0 0 (!w.params.followText "set-order")) }
  refine codeAny_mono (code_new_set (.ref l) (E := E) (Q := fun u s1 => u = .ref s.heap.objs.size ∧ s1 = { s with heap := s.heap.push ob }) ⟨rfl, rfl⟩) fun r s1 hr => ?_
  cases r with
  | error e => exact hr
  | ok fl =>
    cases fl with
    | ret u =>
      obtain ⟨rfl, rfl⟩ := hr
      have h0 : (s.heap.push ob).get? s.heap.objs.size = some ob := Heap.get?_push_size _ rfl
      have hT : Shared.TypeIs { s with heap := s.heap.push ob } (.ref s.heap.objs.size) "set" := ⟨_, h0, rfl⟩
      have g1 := PySem.F.called_set.init.lookup
      have g2 := PySem.F.called_set.init.bind (.ref s.heap.objs.size)
      repeat (any_goals (first | assumption | wp_step))
      refine codeAny_mono (codeAny_call_builtin (R := wants (fun r s2 => r = .none ∧ ∃ h1 tk, s2 = { s with heap := h1, toks := tk } ∧ SetG prog w h1 s.heap.objs.size (fun k' => (firstMet (fun i => ns.getD i 0) its.size).any (· == k')) (firstMet (fun i => ns.getD i 0) its.size).length ∧
          (∀ b o, b < s.heap.objs.size → s.heap.get? b = some o → h1.get? b = some o)) E) PySem.F.called_set.init.plain PySem.F.entry_set_init (check_set_init_1 hT ?_)) fun r2 s2 hr2 => ?_
      · obtain ⟨ol, hol, hcl, nl, hdl⟩ := hl
        obtain ⟨ocls, odict, odata, oslots⟩ := ol
        simp only at hcl hdl
        subst hcl; subst hdl
        have k1 : (s.heap.push ob).get? l = some { cls := .type "list", dict := odict, data := .seq its nl, slots := oslots } := Heap.get?_push_of_some _ hol
        have k2 := PySem.F.sub_list_set
        have k3 := PySem.F.sub_list_frozenset
        have k4 : (Value.type "list" == Value.type "dict") = false := by decide
        have hl1 : (s.heap.push ob).IsList l its := ⟨_, k1, rfl, nl, rfl⟩
        unfold Builtin.«set.__init__» noKeywords Builtin.Frozenset.updateFrom
        generalize hPI : pyIter = PI
        wp_walk
        subst hPI
        refine wpAny_pyIter_list hl1 (wpAny_bind (wpAny_runValue ?_))
        have ll : l < s.heap.objs.size := Heap.lt_size hol
        have sz : (s.heap.push ob).objs.size = s.heap.objs.size + 1 := Heap.size_push ..
        have hh3 : A.in1.in1.in1.handled = none := by simp [hh]
        have c1 : l ≠ (s.heap.push ob).objs.size := by rw [sz]; exact Nat.ne_of_lt (Nat.lt_succ_of_lt ll)
        have c2 : s.heap.objs.size ∉ [(s.heap.push ob).objs.size, l] := by
          rw [sz]
          intro z
          simp only [List.mem_cons, List.not_mem_nil, or_false] at z
          rcases z with z | z
          · exact absurd z (Nat.ne_of_lt (Nat.lt_succ_self _))
          · exact absurd z.symm (Nat.ne_of_lt ll)
        have c3 : ∀ (i : Nat) (v : Value), its[i]? = some v → ∃ t, v = .int ((fun i => ns.getD i 0) i) t := fun i v hv => IntsAre.int_at hi i v (by simpa using hv)
        refine g_turns ((Walks.list hh3 _ l c1 its).toS) c2 (fun i => ns.getD i 0) c3 hb (its.size - 0) 0 _ (by omega) (Nat.zero_le _) ⟨⟨_, Heap.get?_push_size _ rfl, rfl, rfl⟩, (hl1.push _)⟩ ?_ ?_
        · have kg : ((s.heap.push ob).push { cls := .type "list_iterator", data := .fields #[.ref l, .int 0 0] }).get? s.heap.objs.size = some ob := Heap.get?_push_of_some _ h0
          exact (g_fresh kg).congr (fun _ => rfl) rfl
        · intro s3 hm hS
          obtain ⟨h3, g3, d3, tk3, os3⟩ := s3
          have eg : g3 = s.gens := hm.gens
          have ed : d3 = s.drawn := hm.drawn
          have eo : os3 = s.os := hm.os
          subst eg; subst ed; subst eo
          show wpAny _ _ _ _ _ _
          refine wpAny_pure ?_
          show wpAny _ _ (ret Value.none) _ _ _
          refine wpAny_pure ⟨rfl, h3, tk3, rfl, hS, fun b o lb e => ?_⟩
          refine hm.heap b o ?_ (Heap.get?_push_of_some _ (Heap.get?_push_of_some _ e))
          intro z
          simp only [List.mem_cons, List.not_mem_nil, or_false] at z
          rw [sz] at z
          rcases z with z | z
          · exact absurd z (Nat.ne_of_lt lb)
          · exact absurd z (Nat.ne_of_lt (Nat.lt_succ_of_lt lb))
      · cases r2 with
        | error e => exact hr2
        | ok f2 =>
          cases f2 with
          | ret r =>
            obtain ⟨rfl, h1, tk, rfl, hS, hk⟩ := hr2
            repeat (any_goals (first | assumption | wp_step))
            exact fin _ _ hS hk
          | _ => exact hr2.elim
    | _ => exact hr.elim
end
end L2
namespace L2
open PySem PySem.Spec PyProof.Rows
section
variable {prog : Program} {w : World} {A : Around} {E : Value → Shared → Prop} {s : Shared} {a : Addr} {S : Int → Bool} {n : Nat}
theorem items_ord {ord : List Value} {acc : Array Value} {n : Nat} (hl : ord.length = n) (h : ItemsOf (fun i v => ord[i]? = some v) acc n) : acc.toList = ord := by
  obtain ⟨h0, h1⟩ := h
  refine List.ext_getElem? fun i => ?_
  rw [Array.getElem?_toList]
  by_cases hi : i < acc.size
  · rw [Array.getElem?_eq_getElem hi]
    exact (h1 i _ (Array.getElem?_eq_getElem hi)).symm
  · rw [Array.getElem?_eq_none (by omega), List.getElem?_eq_none (by omega)]
theorem collect_set {Q : List Value → Shared → Prop} (hh : A.handled = none) (hS : SetG prog w s.heap a S n)
    (h : ∀ (h' : Heap) (d : Drawn) (tk : Nat) (vs : List Value), (∀ b u, s.heap.get? b = some u → h'.get? b = some u) → (∃ es ep t o, s.heap.get? a = some o ∧ o.data = .set es ep t ∧ vs.Perm (es.toList.map (·.2))) → vs.length = n → s.heap.objs.size < h'.objs.size → Q vs { s with heap := h', drawn := d, toks := tk }) : wpAny (model prog w) A (collect (.ref a)) Q E s := by
  obtain ⟨o, es, ep, t, ho, hx, hd, h1, h2, h3, h4, h5, h6, h7⟩ := hS
  have hal : a < s.heap.objs.size := Heap.lt_size ho
  unfold collect
  refine wpAny_bind (wpAny_runValue (codeAny_builtin entry_proto_collect' ?_))
  show wpAny _ _ (do again (.builtin "list.__iadd__" ⟨[← newList [], .ref a], []⟩)) _ _ s
  refine wpAny_bind (wpAny_newList (wpAny_pure ⟨Code.quiet_builtin _ (by decide +kernel), codeAny_builtin entry_list_iadd' ?_⟩))
  show wpAny _ _ (Builtin.List.listExtendWith (.ref s.heap.objs.size) (.ref a) (.ref s.heap.objs.size)) _ _ { s with heap := s.heap.push (seqObj "list" #[] 0) }
  unfold Builtin.List.listExtendWith
  have ho1 : (s.heap.push (seqObj "list" #[] 0)).get? a = some o := Heap.get?_push_of_some _ ho
  have hy1 : (s.heap.push (seqObj "list" #[] 0)).get? s.heap.objs.size = some (seqObj "list" #[] 0) := Heap.get?_push_size _ rfl
  refine wpAny_bind (wpAny_typeOf (T := "set") ⟨o, ho1, hx.1⟩ ?_)
  have a1 : Builtin.List.listSameRef (.ref s.heap.objs.size) (.ref a) = false := by simp [Builtin.List.listSameRef, Ne.symm (Nat.ne_of_lt hal)]
  have a2 : (Value.type "set" == Value.type "list") = false := by decide
  have a3 : (Value.type "set" == Value.type "tuple") = false := by decide
  simp only [a1, a2, a3, Bool.or_self, Bool.false_eq_true, if_false]
  refine wpAny_bind (iter_set (s := { s with heap := s.heap.push (seqObj "list" #[] 0) }) ho1 hx hd h4 h6 h7 h3 fun it fp St ord h1' d kp lit st fl fn imem hord W => ?_)
  refine wpAny_bind (wpAny_holding ?_)
  have hT1 : Shared.TypeIs { s with heap := h1', drawn := d } (.ref a) "set" := ⟨o, kp a o ho1, hx.1⟩
  unfold Builtin.List.listLengthHint
  refine wpAny_bind (wpAny_specialOf hT1 F.slot_set_len.lookup ?_)
  generalize hid : ("set.__len__" : String) = id0
  wp_delta
  rw [show splitId id0 = some ("set", "__len__") from by subst hid; decide +kernel]
  subst hid
  refine wpAny_bind (wpAny_isInstance (T := "set") (b := true) hT1 (by rw [isSubtype_type]; kernel_rfl) ?_)
  refine wpAny_ite_split (fun hab => absurd hab (by decide)) (fun _ => ?_)
  refine wpAny_ite_split (fun _ => ?_) (fun hab => absurd (by decide +kernel) hab)
  refine wpAny_bind (wpAny_typeOf hT1 (wpAny_pure ?_))
  show wpAny _ _ (rule "list.extend.makes-room" >>= fun _ => Builtin.List.listTouch (.ref s.heap.objs.size) >>= fun _ =>
    again (.builtin "list.extend.loop" ⟨[.ref s.heap.objs.size, .ref it, .ref s.heap.objs.size], []⟩)) _ _ _
  refine wpAny_bind (wpAny_rule (wpAny_bind ?_))
  have hy2 := kp _ _ hy1
  show wpAny _ _ (updateSeq s.heap.objs.size (·.push .none) >>= fun _ => updateSeq s.heap.objs.size (·.pop)) _ _ _
  refine wpAny_bind (wpAny_updateSeq hy2 rfl ?_)
  have hy3 := Heap.get?_update_self (Obj.mapSeq (·.push Value.none)) hy2 rfl
  refine wpAny_updateSeq (hz := by seq_fits) hy3 rfl ?_
  have hy4 := Heap.get?_update_self (Obj.mapSeq (·.pop)) hy3 rfl
  have ot : ∀ b u, b ≠ s.heap.objs.size → h1'.get? b = some u → ((h1'.update s.heap.objs.size (Obj.mapSeq (·.push Value.none))).update s.heap.objs.size (Obj.mapSeq (·.pop))).get? b = some u :=
    fun b u hb e => (Heap.get?_update_other _ _ (Ne.symm hb)).trans ((Heap.get?_update_other _ _ (Ne.symm hb)).trans e)
  have hlo : ord.length = es.size := by rw [hord.length_eq, List.length_map, Array.length_toList]
  have W1 := W A.in1 hh
  have hyn : s.heap.objs.size ∉ fp := fun z => by
    rcases fn _ z with e | e
    · exact absurd e.symm (Nat.ne_of_lt hal)
    · have : s.heap.objs.size + 1 ≤ s.heap.objs.size := by rw [← size_push' s.heap (seqObj "list" #[] 0)]; exact e
      exact absurd this (Nat.not_succ_le_self _)
  have hyi : s.heap.objs.size ≠ it := fun z => hyn (z ▸ imem)
  refine wpAny_pure ⟨plainId_quiet F.plain_extend_loop _, codeAny_extend_loopS W1.toS (fits_of_scanBound h3) _ hyn _ es.size 0 _ _ _ rfl (Nat.zero_le _) (W1.frame 0 _ _ st fun b hb u e => ot b u (fun z => hyn (z ▸ hb)) e) hy4 (ItemsOf.nil _) fun s' acc c hm hs hacc => ?_⟩
  show wpAny _ _ (load s.heap.objs.size >>= _) _ _ s'
  refine wpAny_bind (wpAny_load hs (wpAny_pure ?_))
  have ea := items_ord hlo hacc
  obtain ⟨h9, g9, d9, tk9, os9⟩ := s'
  have eg : g9 = s.gens := hm.gens
  have ed : d9 = d := hm.drawn
  have eo : os9 = s.os := hm.os
  subst eg; subst ed; subst eo
  rw [ea]
  refine h h9 d9 tk9 ord (fun b u e => ?_) ⟨es, ep, t, o, ho, hd, hord⟩ (hlo.trans h5) (Heap.lt_size hs)
  have hb : b ≠ s.heap.objs.size := Nat.ne_of_lt (Heap.lt_size e)
  have lit2 : s.heap.objs.size + 1 ≤ it := by rw [← size_push' s.heap (seqObj "list" #[] 0)]; exact lit
  have hbi : b ≠ it := Nat.ne_of_lt (Nat.lt_of_lt_of_le (Nat.lt_succ_of_lt (Heap.lt_size e)) lit2)
  exact hm.heap b u (by simp [hb, hbi]) (ot b u hb (kp b u (Heap.get?_push_of_some _ e)))
theorem set_ints {h : Heap} (hS : SetG prog w h a S n) {es : Array (Int × Value)} {ep : Nat} {t : SetTable} {o : Obj} {vs : List Value} (ho : h.get? a = some o) (hd : o.data = .set es ep t) (hp : vs.Perm (es.toList.map (·.2))) :
    ∃ ms, IntsAre vs ms ∧ ∀ k, S k = true ↔ k ∈ ms := by
  obtain ⟨o2, es2, ep2, t2, ho2, hx, hd2, h1, h2, _⟩ := hS
  rw [ho] at ho2
  cases ho2
  rw [hd] at hd2
  cases hd2
  have key : ∀ l : List Value, (∀ v ∈ l, ∃ k t, v = Value.int k t) → ∃ ms, IntsAre l ms ∧ ∀ k, k ∈ ms ↔ ∃ v ∈ l, (intKind prog w).is k v = true := by
    intro l
    induction l with
    | nil => intro _; exact ⟨[], .nil, fun k => by simp⟩
    | cons v r ih =>
      intro hv
      obtain ⟨ms, hI, hm⟩ := ih fun u hu => hv u (List.mem_cons_of_mem _ hu)
      obtain ⟨k, tk, rfl⟩ := hv v List.mem_cons_self
      refine ⟨k :: ms, .cons k tk hI, fun j => ?_⟩
      rw [List.mem_cons, hm j]
      constructor
      · rintro (rfl | ⟨u, hu, e⟩)
        · exact ⟨_, List.mem_cons_self, intKind_is _ _ _ _⟩
        · exact ⟨u, List.mem_cons_of_mem _ hu, e⟩
      · rintro ⟨u, hu, e⟩
        rcases List.mem_cons.mp hu with rfl | hu
        · exact .inl ((intKind prog w).inj _ j k e (intKind_is _ _ _ _))
        · exact .inr ⟨u, hu, e⟩
  have hv : ∀ v ∈ vs, ∃ k t, v = Value.int k t := by
    intro v hv
    obtain ⟨e, he, rfl⟩ := List.mem_map.mp (hp.mem_iff.mp hv)
    obtain ⟨⟨k, hk, _⟩, _⟩ := h1 e he
    exact ⟨k, Value.isInt_shape hk⟩
  obtain ⟨ms, hI, hm⟩ := key vs hv
  refine ⟨ms, hI, fun k => ?_⟩
  rw [h2 k, hm k]
  constructor
  · rintro ⟨e, he, q⟩
    exact ⟨e.2, hp.mem_iff.mpr (List.mem_map.mpr ⟨e, he, rfl⟩), q⟩
  · rintro ⟨v, hv, q⟩
    obtain ⟨e, he, rfl⟩ := List.mem_map.mp (hp.mem_iff.mp hv)
    exact ⟨e, he, q⟩
theorem sorted_set {Q : Value → Shared → Prop} (hh : A.handled = none) (hS : SetG prog w s.heap a S n) (h64 : n < 64)
    (h : ∀ (q : Addr) (h' : Heap) (d : Drawn) (tk e : Nat) (us : List Value) (ns : List Int), s.heap.objs.size ≤ q → (∀ b u, s.heap.get? b = some u → h'.get? b = some u) → h'.get? q = some { cls := .type "list", data := .seq us.toArray e } → IntsAre us ns → ns.length = n → ns.Pairwise (· ≤ ·) → (∀ k, S k = true ↔ k ∈ ns) → Q (.ref q) { s with heap := h', drawn := d, toks := tk }) :
    wpAny (model prog w) A (call (.builtin "sorted") [.ref a]) Q E s := by
  refine Calls.call_function_entry kind_sorted plain_sorted entry_sorted (args_sorted1 _) ?_
  unfold Builtin.«sorted»
  refine wpAny_bind (m := checkCount "sorted" 1 1 _) (wpAny_pure ?_)
  refine wpAny_bind (collect_set (A := A.in1) hh hS fun h1 d tk vs kp ⟨es, ep, t, o, ho, hd, hp⟩ hn hlt => ?_)
  obtain ⟨ms, hI, hm⟩ := set_ints hS ho hd hp
  refine wpAny_bind (wpAny_newList ?_ (hsz := by rw [hn, sizeLine_eq]; omega))
  have hoL : (h1.push (seqObj "list" vs.toArray 0)).get? h1.objs.size = some (seqObj "list" vs.toArray 0) := Heap.get?_push_size _ rfl
  refine wpAny_bind (wpAny_holding (wpAny_call_entry slot_list_sort ⟨_, hoL, rfl⟩ entry_list_sort (list_sort_tree hoL hI (by rw [hn]; exact h64) fun out ns' a1 a2 a3 => ⟨_, rfl, ?_⟩) (args_list_sort _)))
  obtain ⟨e, he⟩ := sortedHeap_at (out := out) hoL
  have hle : ∀ b u, s.heap.get? b = some u → b < h1.objs.size := fun b u q => Heap.lt_size (kp b u q)
  refine wpAny_pure ⟨_, rfl, h h1.objs.size _ d tk e out.toList ns' ?_ (fun b u q => ?_) (by simpa [seqObj] using he) a1 ?_ a3 fun k => ?_⟩
  · exact Nat.le_of_lt hlt
  · rw [sortedHeap_old (Nat.ne_of_lt (hle b u q)) (by rw [size_push']; exact Nat.lt_succ_of_lt (hle b u q))]
    exact Heap.get?_push_of_some _ (kp b u q)
  · rw [a2.length_eq, ← IntsAre.length hI, hn]
  · rw [hm k, a2.mem_iff]
end
end L2

namespace L2
open PySem PySem.Spec PyProof.Rows PySem.W
theorem perm_of_nd {α : Type} [BEq α] [LawfulBEq α] : ∀ {xs ys : List α}, xs.Nodup → (∀ x ∈ xs, x ∈ ys) → xs.length = ys.length → ys.Perm xs
  | [], ys, _, _, hl => by
    have : ys = [] := List.length_eq_zero_iff.mp hl.symm
    subst this; exact .nil
  | x :: xs, ys, hn, hs, hl => by
    have hx : x ∈ ys := hs x List.mem_cons_self
    have p1 : ys.Perm (x :: ys.erase x) := List.perm_cons_erase hx
    have hn' := List.nodup_cons.mp hn
    have hl2 : xs.length = (ys.erase x).length := by have := p1.length_eq; simp at hl this; omega
    refine p1.trans (List.Perm.cons x (perm_of_nd hn'.2 (fun y hy => ?_) hl2))
    have hne : y ≠ x := fun e => hn'.1 (e ▸ hy)
    exact (List.mem_erase_of_ne hne).mpr (hs y (List.mem_cons_of_mem _ hy))
theorem nd_step {σ : List Int} {v : Int} (h : σ.Nodup) : (step_dedup σ v).Nodup := by
  unfold step_dedup
  split
  · exact h
  · rename_i c
    rw [List.nodup_append]
    refine ⟨h, by simp, fun a ha b hb => ?_⟩
    have : b = v := by simpa using hb
    subst this
    intro e
    subst e
    exact c (by rw [List.any_eq_true]; exact ⟨a, ha, by simp⟩)
theorem nd_firstMet (f : Nat → Int) : ∀ i, (firstMet f i).Nodup
  | 0 => by rw [firstMet_zero]; exact List.nodup_nil
  | i + 1 => by rw [firstMet_succ]; exact nd_step (nd_firstMet f i)
theorem map_getD (ns : List Int) : (List.range ns.length).map (fun i => ns.getD i 0) = ns := by
  refine List.ext_getElem (by simp) fun i h1 h2 => ?_
  simp [h2]
theorem strict_of {ms : List Int} (h : ms.Pairwise (· ≤ ·)) (n : ms.Nodup) : ms.Pairwise (· < ·) := by
  rw [List.nodup_iff_pairwise_ne] at n
  exact (h.and n).imp fun ⟨a, b⟩ => by omega
theorem Inv.drew {X : Cx} {pins : List (Addr × Obj)} {σ : St} {H : Hp} {s : Shared} (I : Inv X pins σ H s) (d : Drawn) : Inv X pins σ H { s with drawn := d } :=
  I.call (g' := s.gens) (t' := s.toks) (d' := d) (ch := []) (h' := s.heap) Un.refl I.hok I.bare (fun _ z => nomatch z)
section
variable {X : Cx} {e : Expr} {te : TE} {p p2 pos pos2 : Pos}
def rSortSet : V → Hp → VK → Prop := fun x H Q => ∃ ns : List Int, Dv H x (.list (ns.map PyData.int)) ∧ ns.length < 64 ∧ ∀ (q : Addr) (H' : Hp) (ms : List Int), Same H H' → H q = none → ms.Pairwise (· < ·) → (∀ k, k ∈ ms ↔ k ∈ ns) → LAt H' q (ms.map PyData.int) → Q (.ref q) H'
def tSortSet (te : TE) : TE := fun σ H Q => te σ H fun x H1 => rSortSet x H1 Q
theorem dvs_ints {H : Hp} : ∀ (ns : List Int), Dvs H (ns.map V.int) (ns.map PyData.int)
  | [] => .nil
  | x :: r => .cons (.int x) (dvs_ints r)
theorem pe_sortSet (he : PE X e te) (hc : X.calm = true) (hg : Gl X "sorted") (hm : X.mg "sorted" = none) (hg2 : Gl X "set") (hm2 : X.mg "set" = none)
    (h1 : starEach [e] X.env = (false, eval e X.env) :: starEach [] X.env := by rfl)
    (h2 : starEach [.Call (.Name "set" p2) [e] [] pos2] X.env = (false, eval (.Call (.Name "set" p2) [e] [] pos2) X.env) :: starEach [] X.env := by rfl) :
    PE X (.Call (.Name "sorted" p) [.Call (.Name "set" p2) [e] [] pos2] [] pos) (tSortSet te) := by
  intro pins s σ H Q I h
  refine wpAny_Call_Name_kw (ld_blt I hg hm (by rfl) ?_ (by decide) (by decide))
  refine PyProof.Rows.callWith_builtin1 ?_ h2 rfl
  rw [h2]
  show wpAny _ _ (spliced ((false, eval (.Call (.Name "set" p2) [e] [] pos2) X.env) :: backTo pos (starEach [] X.env))) _ _ s
  refine Calls.spliced_cons (wpAny_Call_Name_kw (ld_blt I hg2 hm2 (by rfl) ?_ (by decide) (by decide)))
  refine PyProof.Rows.callWith_type1 ?_ h1 rfl
  rw [h1]
  show wpAny _ _ (spliced ((false, eval e X.env) :: backTo pos2 (starEach [] X.env))) _ _ s
  refine Calls.spliced_cons (thn (he pins s σ H _ I h) fun u s1 ⟨x, H1, I1, r1, q1⟩ => ?_)
  refine Calls.spliced_nil ?_
  obtain ⟨ns, hd, hl, q⟩ := q1
  obtain ⟨a, ys, rfl, e, dv⟩ := hd.lst_inv
  obtain ⟨its, rvs, pl, _⟩ := I1.list (e X.K)
  cases r1
  have hS := ints_at dv rvs
  have hlen : its.length = ns.length := by rw [← rvs.length, dv.length, List.length_map]
  refine call_set_ints (I1.ok.hd hc) pl.isList (by simpa using hS) (by rw [List.size_toArray, hlen]; unfold scanBound; omega) fun h3 tk hset hk => ?_
  refine Calls.spliced_nil ?_
  have hk1 : ∀ b u, s1.heap.get? b = some u → h3.get? b = some u := fun b ob q => hk b ob (Heap.lt_size q) q
  have hle := firstMet_length_le (fun i => ns.getD i 0) its.toArray.size
  refine sorted_set (I1.ok.hd hc) hset (by rw [List.size_toArray, hlen] at hle; rw [List.size_toArray, hlen]; omega) fun qa h4 d tk2 ep us ms hq kp hget hI hml hup hmem => ?_
  have hq1 : s1.heap.objs.size ≤ qa := by
    rcases Nat.lt_or_ge qa s1.heap.objs.size with z | z
    · have : s1.heap.objs.size < h3.objs.size := by
        obtain ⟨o, _, _, _, ho, _⟩ := hset
        exact Heap.lt_size ho
      exact absurd (Nat.lt_of_lt_of_le this hq) (Nat.not_lt.mpr (Nat.le_of_lt z))
    · exact z
  have hqn : H1 qa = none := I1.hok.fresh hq1
  have hm : ∀ k, k ∈ ms ↔ k ∈ ns := fun k => by
    have z := hmem k
    rw [firstMet_any, List.size_toArray, hlen, map_getD, List.any_eq_true] at z
    rw [← z]
    exact ⟨fun ⟨y, hy, e⟩ => by rw [← beq_iff_eq.mp e]; exact hy, fun hk => ⟨k, hk, by simp⟩⟩
  have hnd : ms.Nodup := by
    refine (perm_of_nd (nd_firstMet _ _) (fun k hk => ?_) hml.symm).symm.nodup (nd_firstMet _ _)
    exact (hmem k).mp (by rw [List.any_eq_true]; exact ⟨k, hk, by simp⟩)
  have I2 : Inv X pins σ (upd H1 qa (.lst (ms.map V.int))) { s1 with heap := h4, toks := tk2 } := I1.laid (t' := tk2) (fun b u e => kp b u (hk1 b u e)) hq1 ⟨by
    rw [List.length_map]
    have := firstMet_length_le (fun i => ns.getD i 0) its.toArray.size
    rw [hml, sizeLine_eq]
    rw [List.size_toArray, hlen] at this
    rw [List.size_toArray, hlen]
    omega, us, ep, vals_ints hI, hget⟩
  exact ⟨.ref qa, _, I2.drew d, rfl, q qa _ ms (same_upd hqn) hqn (strict_of hup hnd) hm (lat_upd hqn (dvs_ints ms) (immAll_map (fun _ => rfl) _))⟩
end
section
variable {σ : St} {H : Hp} {Q : VK} {v : V}
theorem r_sortSetT {te : TE} (h : te σ H fun x H1 => rSortSet x H1 Q) : tSortSet te σ H Q := h
theorem r_sortSet {ns : List Int} (hp : Dv H v (.list (ns.map PyData.int))) (hl : ns.length < 64) (h : ∀ (q : Addr) (H' : Hp) (ms : List Int), Same H H' → H q = none → ms.Pairwise (· < ·) → (∀ k, k ∈ ms ↔ k ∈ ns) → LAt H' q (ms.map PyData.int) → Q (.ref q) H') : rSortSet v H Q := ⟨ns, hp, hl, h⟩
end
section
variable {X : Cx}
def rDClear : V → List V → Hp → VK → Prop := fun x vs H Q => ∃ a kvs, x = .ref a ∧ vs = [] ∧ H a = some (.dK kvs) ∧ Q .non (upd H a (.dK []))
end
section
variable {σ : St} {H : Hp} {Q : VK} {K : PySem.W.Frag} {p : Addr} {m : List (Str × PyData)}
end
end L2

namespace L2
open PySem PySem.Spec PyProof.Rows PySem.W
def Tr (h : Heap) (a T : Addr) (c : Value) : Prop := ∃ oe vs oT ts, h.get? a = some oe ∧ oe.cls = c ∧ oe.dict = none ∧ oe.data = .fields vs ∧ vs[1]? = some (.ref T) ∧ T ≠ a ∧ h.get? T = some oT ∧ oT.data = .fields ts ∧ ts[3]? = some .none ∧ vs[2]? = some .none
structure Lv (l : List Env) (S : List Addr) (h h' : Heap) : Prop where
  keep : ∀ b o, b ∉ frs l → b ∉ S → h.get? b = some o → h'.get? b = some o
  slot : ∀ b o, b ∈ frs l → h.get? b = some o → ∃ sl, h'.get? b = some { o with slots := sl }
section
variable {M : Model} {A : Around} {E : Value → Shared → Prop} {s : Shared} {env : Env} {outer : List Env} {L a T : Addr} {c : Value} {base : Heap} {Q : Unit → Shared → Prop}
end
def CXR (P : Program) (w : World) : CXT := fun outer H s E e s' => ∃ a T C H', e = .ref a ∧ s'.os = s.os ∧ AllBare s'.gens ∧ Un (frs outer) [] H H' s.heap s'.heap ∧ HOk P w H' s'.heap ∧ Tr s'.heap a T (.ref C) ∧ s.heap.get? a = none ∧ s.heap.get? T = none ∧ H' a = none ∧ H' T = none ∧ E (.ref C) none H'
section
variable {P : Program} {w : World} {K : PySem.W.Frag} {mg : Str → Option Value} {base : Heap} {N : List Str} {qual : Str} {scope : Scope} {f : Addr} {cd : Value} {A : Around} {outer : List Env} {s0 : Shared} {H0 : Hp} {E : XK} {CX : CXT} {pins : List (Addr × Obj)} {σ : St} {H : Hp} {s : Shared}
def RaiseOk (X : Cx) (E : XK) : Prop := ∀ (pins : List (Addr × Obj)) (σ : St) (H : Hp) (s : Shared) (h1 : Heap) (a C : Addr) (args : List Value), Inv X pins σ H s → Heap.MadeExcOf s.heap h1 a (.ref C) args → E (.ref C) none H → X.xe (.ref a) { s with heap := h1 }
end
section
variable {K : PySem.W.Frag} {h : Heap} {C : Addr} {bmB : List Value} {newId : String}
def ExcCls (h : Heap) (C : Addr) (bmB : List Value) (newId : String) : Prop := ∃ (bm : List Value) (N : Addr) (nm q : Str) (bs : List Value) (hd : Bool) (sn : List Str) (sub : List Value) (ab : Bool) (col : Option Bool) (dd : Option Addr) (k0 k1 k2 k3 k5 : Option Value) (mN : Str → Option Value),
  h.get? C = some (excClassObj nm q C N bs bm hd sn sub ab col dd k0 k1 k2 k3 k5 newId) ∧ h.Ns N mN ∧ mN "__init__" = none ∧ OwnTail h bmB bm
end
abbrev veB : List Value := [.type "ValueError", .type "Exception", .type "BaseException", .type "object"]
def ExcK (K : PySem.W.Frag) (C : Addr) : Prop := excIn K C veB "ValueError.__new__" = true
def tRaise (C : Addr) (E : XK) (ta : TA) : TS := fun _ σ H => ta σ H fun vs H1 => vs.length ≤ sizeLine ∧ E (.ref C) none H1
section
variable {X : Cx} {pins : List (Addr × Obj)} {σ : St} {H : Hp} {s : Shared}
def isE (a C : Addr) : Heap → Prop := fun h => ∃ o vs, h.get? a = some o ∧ o.cls = .ref C ∧ o.dict = none ∧ o.data = .fields vs ∧ vs[2]? = some .none
abbrev Cx.tryC (X : Cx) (f : Value → Shared → Prop) (pn : List (Addr × Obj)) : Cx := { X with xe := f, pn := pn }
abbrev Cx.hand (X : Cx) (a : Addr) : Cx := { X with A := X.A.mark (some (.ref a)), calm := false, xe := fun _ _ => False }
end
section
variable {M : Model} {A : Around} {E : Value → Shared → Prop}
end
def HitE (K : PySem.W.Frag) (C D : Addr) : Prop := ExcK K C ∧ PySem.W.mroIn K C (.ref D) = some true
def tTry (n i : Nat) (tb : XK → TS) (ok : Addr → Prop) (ts : TS) : TS := fun D σ H =>
  tb (fun c _ H' => ∃ C, c = .ref C ∧ ok C ∧ ∀ a, H' a = none → ts { nx := fun _ H => D.nx (List.replicate n none) H, rt := D.rt, bk := fun _ H => D.bk (List.replicate n none) H, ct := fun _ H => D.ct (List.replicate n none) H } ((List.replicate n none).set i (some (.ref a))) (upd H' a (.ext (isE a C)))) D σ H
structure TyE (K : PySem.W.Frag) (C : Addr) : Prop where
  ga : PySem.W.findIn K (.ref C) "__getattribute__" = some (some (.builtin "BaseException.__getattribute__"))
  gn : PySem.W.findIn K (.ref C) "__getattr__" = some none
  mb : PySem.W.mroIn K C (.type "BaseException") = some true
  hd : PySem.W.hasDictIn K C = true
  ty : TyCls K C
section
variable {X : Cx}
def rIsiE (K : PySem.W.Frag) : List V → Hp → VK → Prop := fun xs H Q => ∃ a c cv C b, xs = [.ref a, c] ∧ ClsV c cv ∧ H a = some (.ext (isE a C)) ∧ TyE K C ∧ PySem.W.kitOne K (.ref C) cv = some b ∧ Q (.bl b) H
end
section
variable {P : Program} {w : World} {K : PySem.W.Frag} {mg : Str → Option Value} {base : Heap}
structure CalR (P : Program) (w : World) (K : PySem.W.Frag) (mg : Str → Option Value) (base : Heap) (k : Nat) (f : Addr) (ps : List Str) (dvs : List V) (sp : Sp) : Prop where
  ex : ∃ (fd : FuncData) (ds : List Value), FnOk P w K mg base (CXR P w) k f fd ps sp ∧ Binds K fd ps ds ∧ Vals dvs ds
end
section
variable {X : Cx} {k : Nat} {f : Addr} {ps : List Str} {sp : Sp} {dvs : List V} {E : XK} {x : Str} {p pos : Pos} {e : Expr} {es : List Expr} {t : TA}
end
section
variable {σ : St} {H : Hp} {Q : VK} {D : Ends} {K : PySem.W.Frag} {E : XK} {C : Addr} {ta : TA}
end
end L2

namespace L2
open PySem PySem.Spec PyProof.Rows PySem.W
def sliceS (z : Str) (lo hi : Option Int) : Str := ⟨((Builtin.Str.strSliceIndices lo hi 1 z.length).filterMap (z.cps[·]?)).toArray⟩
def rSlX : V → Option Int → Option Int → Hp → VK → Prop := fun x lo hi H Q => ∃ z : Str, x = .str z ∧ z.length ≤ 4000 ∧ Q (.str (sliceS z lo hi)) H
theorem idx_all {lo hi : Option Int} {n : Nat} (h : (Builtin.Str.strSliceIndices lo hi 1 n).length = n) : Builtin.Str.strSliceIndices lo hi 1 n = List.range n := by
  have key : ∀ a b : Int, 0 ≤ a → b ≤ n → (sliceRange a b 1).length = n → sliceRange a b 1 = List.range n := by
    intro a b ha hb hl
    unfold sliceRange at hl ⊢
    simp only [List.length_map, List.length_range, Int.ediv_one, show (1 : Int) > 0 by decide, if_true] at hl ⊢
    rw [hl]
    by_cases hn : n = 0
    · subst hn; rfl
    · have : a = 0 := by
        split at hl <;> omega
      subst this
      rw [show (fun k : Nat => ((0 : Int) + 1 * (k : Int)).toNat) = id from funext fun k => by simp, List.map_id]
  unfold Builtin.Str.strSliceIndices at h ⊢
  simp only [show (1 : Int) > 0 by decide, if_true] at h ⊢
  refine key _ _ ?_ ?_ h
  · cases lo <;> simp only [] <;> omega
  · cases hi <;> simp only [] <;> omega
theorem pick_range : ∀ (l : List Nat), (List.range l.length).filterMap (fun i => l[i]?) = l
  | [] => rfl
  | c :: r => by
    rw [List.length_cons, List.range_succ_eq_map, List.filterMap_cons]
    simp only [List.getElem?_cons_zero, List.filterMap_map]
    have : ((fun i => (c :: r)[i]?) ∘ Nat.succ) = fun i => r[i]? := funext fun i => by simp
    rw [this, pick_range r]
theorem slice_all {z : Str} {lo hi : Option Int} (h : (Builtin.Str.strSliceIndices lo hi 1 z.length).length = z.length) : sliceS z lo hi = z := by
  unfold sliceS
  rw [idx_all h]
  obtain ⟨⟨l⟩⟩ := z
  show (⟨((List.range l.length).filterMap fun i => (⟨l⟩ : Array Nat)[i]?).toArray⟩ : Str) = _
  have : (fun i => (⟨l⟩ : Array Nat)[i]?) = fun i => l[i]? := funext fun i => (Array.getElem?_toList (xs := ⟨l⟩)).symm
  rw [this, pick_range l]
section
variable {X : Cx}
theorem sl_strX : SlR X rSlX := by
  intro pins s σ H x v vl vu lo hi sl Q I rx hs pl pu h
  obtain ⟨z, rfl, hz, q⟩ := h
  obtain ⟨t, rfl⟩ := rx
  obtain ⟨l, rfl, e1⟩ : ∃ l : Option (Int × Tok), vl = partValue l ∧ l.map (·.1) = lo := by
    cases pl with
    | none => exact ⟨none, rfl, rfl⟩
    | int i t => exact ⟨some (i, t), rfl, rfl⟩
  obtain ⟨u, rfl, e2⟩ : ∃ u : Option (Int × Tok), vu = partValue u ∧ u.map (·.1) = hi := by
    cases pu with
    | none => exact ⟨none, rfl, rfl⟩
    | int i t => exact ⟨some (i, t), rfl, rfl⟩
  refine ⟨"str", _, F.slot_str_getitem.lookup, typeIs_str _ _ _, ?_⟩
  refine wpAny_getItem_str_slice (l := l) (u := u) (st := none) hs rfl ?_
  have ep : slicePicked z l u none = Builtin.Str.strSliceIndices lo hi 1 z.length := by unfold slicePicked; rw [e1, e2]; rfl
  unfold sliceMade
  rw [ep]
  split
  · rename_i c
    rw [Bool.and_eq_true] at c
    have := slice_all (z := z) (lo := lo) (hi := hi) (by simpa using c.2)
    rw [this] at q
    exact ⟨.str z, H, I, ⟨t, rfl⟩, q⟩
  · have hn : (List.filterMap (fun i => z.cps[i]?) (Builtin.Str.strSliceIndices lo hi 1 z.length)).length ≤ z.length := by
      refine Nat.le_trans (List.length_filterMap_le _ _) ?_
      exact idx_len _ _ _
    have hl : (Str.mk (List.filterMap (fun i => z.cps[i]?) (Builtin.Str.strSliceIndices lo hi 1 z.length)).toArray).length ≤ z.length := by
      show (List.filterMap (fun i => z.cps[i]?) (Builtin.Str.strSliceIndices lo hi 1 z.length)).toArray.size ≤ _
      rw [List.size_toArray]; exact hn
    exact ⟨Nat.le_trans hl (Nat.le_of_lt (smaller hz)), .str _, H, I.tok _, ⟨_, rfl⟩, q⟩
def rStarts : V → List V → Hp → VK → Prop := fun x vs H Q => ∃ z y : Str, x = .str z ∧ vs = [.str y] ∧ Q (.bl (Txt.startswith z y)) H
def rIntS : List V → Hp → VK → Prop := fun xs H Q => ∃ (x : Str) (n : Int), xs = [.str x] ∧ PySem.intText? x = some n ∧ x.length ≤ 640 ∧ Q (.int n) H
def rMulL : R2 := fun x y H Q => ∃ (z : Str) (n : Int), x = .str z ∧ y = .int n ∧ z.length = 1 ∧ 0 ≤ n ∧ n ≤ 1000 ∧ ∀ t : Str, t.length = n.toNat → (∀ c ∈ t.cps.toList, c ∈ z.cps.toList) → Q (.str t) H
end
section
variable {σ : St} {H : Hp} {Q : VK} {D : Ends} {K : PySem.W.Frag}
end
end L2

namespace L2
open PySem PySem.Spec PyProof.Rows PySem.W
section
variable {X : Cx} {pins : List (Addr × Obj)} {σ : St} {H : Hp} {s : Shared} {h' : Heap}
theorem Inv.turned2 {t' : Nat} {i1 i2 : Addr} (I : Inv X pins σ H s) (k : ∀ b o, b ≠ i1 → b ≠ i2 → s.heap.get? b = some o → h'.get? b = some o) (f1 : FpOk X pins H i1) (f2 : FpOk X pins H i2) : Inv X pins σ H { s with heap := h', toks := t' } := by
  have nit : ∀ b u, H b = some u → b ≠ i1 ∧ b ≠ i2 := fun b u e => ⟨fun z => (by rw [z, f1.1] at e; cases e), fun z => (by rw [z, f2.1] at e; cases e)⟩
  have nc : ∀ {b : Addr}, b ∉ [i1, i2] → b ≠ i1 ∧ b ≠ i2 := fun {b} h => by simpa using h
  refine I.step (g' := s.gens) (d' := s.drawn) (ch := [i1, i2]) (fun b hb => ?_) (fun b o _ _ hc e _ => k b o (nc hc).1 (nc hc).2 e) (fun b o _ _ hc e _ => ⟨o.slots, k b o (nc hc).1 (nc hc).2 e⟩) (fun _ _ _ _ n => n)
    (fun b o hc e => ⟨o, k b o (nc hc).1 (nc hc).2 e⟩) (fun _ _ e => e) (fun _ _ _ e => e) (fun b ps e => ⟨#[], by rw [e]; simp⟩) (fun m hm => ?_) (fun b u e => ?_) I.bare
  · have e : b = i1 ∨ b = i2 := by simpa using hb
    rcases e with rfl | rfl
    · exact ⟨f1.2.2.2.1, f1.2.1, f1.2.2.2.2.1, f1.2.2.2.2.2⟩
    · exact ⟨f2.2.2.2.1, f2.2.1, f2.2.2.2.2.1, f2.2.2.2.2.2⟩
  · obtain ⟨o, es, ep, ho, r⟩ := hm
    exact ⟨o, es, ep, k _ o (Ne.symm f1.2.1) (Ne.symm f2.2.1) ho, r⟩
  · refine (I.hok b u e).stay (fun c v hc q => k c v ?_ ?_ q) (fun _ q => q) fun _ _ q => q
    · rcases hc with z | z
      · rw [z]; exact (nit b u e).1
      · exact (nit c _ z).1
    · rcases hc with z | z
      · rw [z]; exact (nit b u e).2
      · exact (nit c _ z).2
end
theorem entry_enum_iter : entryFor table "enumerate.__iter__" = some Builtin.«dict_keyiterator.__iter__» :=
  entryFor_alias (id' := "dict_keyiterator.__iter__") (by kernel_rfl) rfl (by decide +kernel) (by kernel_rfl)
def Itn (K : PySem.W.Frag) (a : Addr) : It := ⟨fun i H => ∃ xs x, SqL K H a xs ∧ xs[i]? = some x, fun i H v H' => ∃ t x, (∀ xs, SqL K H a xs → xs[i]? = some x) ∧ v = .ref t ∧ H t = none ∧ H' = upd H t (.tup [.int i, x]), fun i H => ∃ xs, SqL K H a xs ∧ xs.length ≤ i⟩
theorem turn_enum {P : Program} {w : World} {K : PySem.W.Frag} {elts : List Expr} {x1} {pos : Pos} {e it a : Addr} (hne : e ≠ it) :
    Turn P w K (.Tuple elts x1 pos) (Itn K a) [e, it] e (fun i h => (∃ old, IsEnum h e it (i : Nat) old) ∧ h.IsListIter it a i) where
  mem := by simp
  obj := fun i h st b hb => by
    have e' : b = e ∨ b = it := by simpa using hb
    obtain ⟨⟨old, q⟩, o, e1, c, d⟩ := st
    rcases e' with rfl | rfl
    · exact ⟨_, q, fun v z => by cases z⟩
    · exact ⟨o, e1, fun v z => by rw [d] at z; cases z⟩
  keep := fun i h h' st k => ⟨let ⟨old, q⟩ := st.1; ⟨old, k e (by simp) _ q⟩, st.2.at fun o q => k it (by simp) o q⟩
  item := by
    intro X hP hw hK hc i pins s σ H E I hf st hg
    subst hP hw hK
    have fe := hf e (by simp)
    have fi := hf it (by simp)
    obtain ⟨xs, x, hq, hx⟩ := hg
    obtain ⟨its, rv, p, hz⟩ := I.list hq
    obtain ⟨u, hu, ru⟩ := rv.get hx
    obtain ⟨⟨old, he⟩, hit⟩ := st
    have hel : e < s.heap.objs.size := Heap.lt_size he
    have hil : it < s.heap.objs.size := by obtain ⟨o, ho, _⟩ := id hit; exact Heap.lt_size ho
    have hn : H s.heap.objs.size = none := I.hok.fresh (Nat.le_refl _)
    refine wpAny_pyNext_enum_item he hit p.isList (x := u) (by simpa using hu) hne fun h' heo hit' ht hz' kk => ?_
    refine ⟨_, rfl, wpAny_letOwnedTupleGo_enum (s := { s with heap := h', toks := s.toks + 1 }) heo fun h2 he2 sb => ?_⟩
    replace sb : Heap.SameBut e h' h2 := sb
    let tb : Obj := { cls := .type "tuple", data := .seq #[.int i s.toks, u] }
    have I1 : Inv X pins σ (upd H s.heap.objs.size (.tup [.int i, x])) { s with heap := s.heap.push tb } :=
      I.laid (t' := s.toks) (fun b u e => Heap.get?_push_of_some _ e) (Nat.le_refl _) (show ObjOk X.prog X.w _ _ _ (.tup [.int i, x]) from ⟨by rw [sizeLine_eq]; simp, [.int i s.toks, u], .cons ⟨_, rfl⟩ (.cons ru .nil), IsTup.new _ _⟩)
    have hne' : upd H s.heap.objs.size (.tup [.int i, x]) e = none := by rw [upd_ne (Nat.ne_of_lt hel)]; exact fe.1
    have hni' : upd H s.heap.objs.size (.tup [.int i, x]) it = none := by rw [upd_ne (Nat.ne_of_lt hil)]; exact fi.1
    have I2 : Inv X pins σ (upd H s.heap.objs.size (.tup [.int i, x])) { s with heap := h2, toks := s.toks + 1 } := by
      refine Inv.turned2 (s := { s with heap := s.heap.push tb }) (h' := h2) (t' := s.toks + 1) (i1 := e) (i2 := it) I1 (fun b u' hb1 hb2 q => ?_) ⟨hne', fe.2⟩ ⟨hni', fi.2⟩
      by_cases hbn : b = s.heap.objs.size
      · subst hbn
        have e0 : (s.heap.push tb).get? s.heap.objs.size = some tb := Heap.get?_push_size _ rfl
        have e1 := e0.symm.trans q
        cases e1
        exact (sb.2 _ hb1).trans ht
      · exact (sb.2 _ hb1).trans (kk b u' hb1 hb2 (push_other q hbn))
    refine ⟨.ref s.heap.objs.size, _, I2, rfl, ⟨_, x, fun ys hy => by rw [I.list_inj hy hq]; exact hx, rfl, hn, rfl⟩, ⟨⟨_, he2⟩, hit'.at fun o q => (sb.2 it (Ne.symm hne)).trans q⟩, fun b hb => ?_⟩
    have e' : b = e ∨ b = it := by simpa using hb
    rcases e' with rfl | rfl
    · exact hne'
    · exact hni'
  done := by
    intro X hP hw hK hc i pins s σ H E I hf st hg
    subst hP hw hK
    obtain ⟨f0, f1, f2, f3, f4, f5⟩ := hf it (by simp)
    obtain ⟨xs, hq, hx⟩ := hg
    obtain ⟨its, rv, p, hz⟩ := I.list hq
    have hl := rv.length
    obtain ⟨⟨old, he⟩, hit⟩ := st
    exact wpAny_pyNext_enum_end (I.ok.hd hc) he hit p.isList (by simp; omega) fun h' eb => ⟨rfl, I.turned (t' := s.toks) (fun b o hb e => eb b o hb e) f0 f1 f3 f4 f5⟩
  self := fun A i s Q E st q => by
    obtain ⟨⟨old, he⟩, hit⟩ := st
    have hT : s.TypeIs (.ref e) "enumerate" := ⟨_, he, rfl⟩
    refine wpAny_pyIter_slot hT F.slot_enumerate_iter (wpAny_call_entry F.slot_enumerate_iter hT entry_enum_iter ?_ (F.args_enumerate_iter_1 _))
    show wpAny _ _ (ret (.ref e)) _ _ s
    exact wpAny_pure ⟨_, rfl, "enumerate", _, hT, F.slot_enumerate_next.lookup, q⟩
def iEnum (K : PySem.W.Frag) (ta : TA) : TI := fun σ H R => ta σ H fun vs H1 => ∃ a, vs = [.ref a] ∧ (∃ xs, SqL K H1 a xs) ∧ R (Itn K a) H1
theorem pi_enum {X : Cx} {elts : List Expr} {x1} {tpos : Pos} {a : Expr} {ta : TA} {p pos : Pos} (hg : Gl X "enumerate") (hm : X.mg "enumerate" = none) (ha : PA X [a] ta) (hs : starEach [a] X.env = [(false, eval a X.env)] := by rfl) :
    PI X (.Tuple elts x1 tpos) (.Call (.Name "enumerate" p) [a] [] pos) (iEnum X.K ta) := by
  intro pins s σ H R I h
  refine Call_ (ld_blt I hg hm boot_enumerate (PyProof.Rows.callWith_type1 (thn (ha pos pins s σ H _ I h) fun us s1 ⟨vs, H1, I1, r1, q1⟩ => ?_) hs rfl))
  obtain ⟨l, e, ⟨xs, hq⟩, q⟩ := q1
  subst e
  cases r1 with
  | cons r rr =>
    cases rr
    cases r
    obtain ⟨its, rv, p, hz⟩ := I1.list hq
    refine call_enumerate_list p.isList fun h' he hit hsz hk => ?_
    have hT : (⟨h', s1.gens, s1.drawn, s1.toks, s1.os⟩ : Shared).TypeIs (.ref (s1.heap.objs.size + 1)) "enumerate" := ⟨_, he, rfl⟩
    refine wpAny_pyIter_slot hT F.slot_enumerate_iter (wpAny_call_entry F.slot_enumerate_iter hT entry_enum_iter ?_ (F.args_enumerate_iter_1 _))
    show wpAny _ _ (ret (.ref (s1.heap.objs.size + 1))) _ _ _
    refine wpAny_pure ⟨_, rfl, "enumerate", _, hT, F.slot_enumerate_next.lookup, ?_⟩
    refine ⟨s1.heap.objs.size + 1, [s1.heap.objs.size + 1, s1.heap.objs.size], _, _, H1, rfl, I1.kept (t' := s1.toks) hk, turn_enum (a := l) (Nat.succ_ne_self _), ⟨⟨_, he⟩, hit⟩, fun b hb => ?_, q⟩
    have e : b = s1.heap.objs.size + 1 ∨ b = s1.heap.objs.size := by simpa using hb
    rcases e with rfl | rfl
    · exact I1.fpOk (Nat.le_succ _) (I1.hok.fresh (Nat.le_succ _))
    · exact I1.fpOk (Nat.le_refl _) (I1.hok.fresh (Nat.le_refl _))
end L2
namespace L2
open PySem PySem.Spec PyProof.Rows PySem.W
theorem best_gt (num : Nat → Int) : ∀ k, argBest (fun i j => decide (num i > num j)) k ≤ k ∧ ∀ j, j ≤ k → num j ≤ num (argBest (fun i j => decide (num i > num j)) k)
  | 0 => ⟨Nat.le_refl _, fun j hj => by have : j = 0 := by omega
                                        subst this; exact Int.le_refl _⟩
  | k + 1 => by
    obtain ⟨h1, h2⟩ := best_gt num k
    unfold argBest
    by_cases h : num (k + 1) > num (argBest (fun i j => decide (num i > num j)) k)
    · rw [if_pos (decide_eq_true h)]
      refine ⟨Nat.le_refl _, fun j hj => ?_⟩
      by_cases hk : j = k + 1
      · subst hk; exact Int.le_refl _
      · exact Int.le_trans (h2 j (by omega)) (Int.le_of_lt h)
    · rw [if_neg (by simpa using h)]
      refine ⟨by omega, fun j hj => ?_⟩
      by_cases hk : j = k + 1
      · subst hk; omega
      · exact h2 j (by omega)
section
variable {X : Cx}
def rMaxL : List V → Hp → VK → Prop := fun xs H Q => ∃ (v : V) (ns : List Int), xs = [v] ∧ Dv H v (.list (ns.map PyData.int)) ∧ 0 < ns.length ∧ ∀ m ∈ ns, (∀ k ∈ ns, k ≤ m) → Q (.int m) H
theorem call_maxL (hc : X.calm = true) : CallR X (.builtin "max") rMaxL := by
  intro pins s σ H xs us Q I r h
  obtain ⟨v, ns, rfl, hd, hpos, q⟩ := h
  obtain ⟨u, rfl, ru⟩ := vals1 r
  obtain ⟨p, ys, rfl, e, dv⟩ := hd.lst_inv
  obtain ⟨its, rvs, pl, _⟩ := I.list (e X.K)
  cases ru
  have hI := ints_at dv rvs
  have hn : its.toArray.size = ns.length := by rw [List.size_toArray, hI.length]
  have hlt : p < s.heap.objs.size := by obtain ⟨o, n, e1, _⟩ := pl; exact Heap.lt_size e1
  have hA : X.A.in1.handled = none := I.ok.hd hc
  refine call_max_walk (wpAny_pyIter_list pl.isList ?_)
  refine ⟨s.heap.objs.size, _, _, _, _, _, fun i j => decide (ns.getD i 0 > ns.getD j 0), rfl, Walks.list hA _ p (Nat.ne_of_lt hlt) its.toArray, ⟨⟨_, Heap.get?_push_size _ rfl, rfl, rfl⟩, pl.isList.at fun o e => Heap.get?_push_of_some _ e⟩, ?_, by omega, CmpOf.ints_gt (fun i => ns.getD i 0) ?_, ?_⟩
  · intro b hb
    rw [Heap.size_push]
    have : b = s.heap.objs.size ∨ b = p := by simpa using hb
    rcases this with rfl | rfl
    · exact Nat.lt_succ_self _
    · exact Nat.lt_succ_of_lt hlt
  · intro i v hv
    exact hI.int_at i v (by simpa using hv)
  · intro v h' tk hP hk
    have b := best_gt (fun i => ns.getD i 0) (its.toArray.size - 1)
    generalize argBest (fun i j => decide (ns.getD i 0 > ns.getD j 0)) (its.toArray.size - 1) = ix at b hP
    obtain ⟨b1, b2⟩ := b
    obtain ⟨t, rfl⟩ := hI.int_at ix v (by simpa using hP)
    have I1 := I.kept (t' := s.toks) (h' := s.heap.push { cls := Value.type "list_iterator", data := Data.fields #[Value.ref p, Value.int 0 0] }) fun b o e => Heap.get?_push_of_some _ e
    have fp := I.fpOk (H' := H) (Nat.le_refl _) (I.hok.fresh (Nat.le_refl _))
    have I2 := I1.turned (t' := tk) (h' := h') (it := s.heap.objs.size) (fun b o hb e => hk b o (by simpa using hb) e) fp.1 fp.2.1 fp.2.2.2.1 fp.2.2.2.2.1 fp.2.2.2.2.2
    have hb : ix < ns.length := by omega
    refine ⟨.int _, H, I2, ⟨t, rfl⟩, q _ ?_ ?_⟩
    · rw [List.getD_eq_getElem?_getD, List.getElem?_eq_getElem hb]; exact List.getElem_mem hb
    · intro k hk
      obtain ⟨j, hj, rfl⟩ := List.getElem_of_mem hk
      have := b2 j (by omega)
      rwa [List.getD_eq_getElem?_getD (i := j), List.getElem?_eq_getElem hj] at this
def rSumV : V → Hp → VK → Prop := fun x H Q => ∃ (p : Addr) (m : List (Str × PyData)) (ns : List Int), x = .ref p ∧ DAt H p m ∧ m.map (·.2) = ns.map PyData.int ∧ Q (.int ns.sum) H
def tSumV (te : TE) : TE := fun σ H Q => te σ H fun x H1 => rSumV x H1 Q
theorem pe_sumV {e : Expr} {te : TE} {p pos apos cpos : Pos} (he : PE X e te) (hc : X.calm = true) (hg : Gl X "sum") (hm : X.mg "sum" = none)
    (hbase : attributeBase e "values" X.env (eval e X.env) = eval e X.env := by rfl) (hline : (apos.endLine == cpos.line) = true := by rfl)
    (h2 : starEach [.Call (.Attribute e "values" apos) [] [] cpos] X.env = (false, eval (.Call (.Attribute e "values" apos) [] [] cpos) X.env) :: starEach [] X.env := by rfl) :
    PE X (.Call (.Name "sum" p) [.Call (.Attribute e "values" apos) [] [] cpos] [] pos) (tSumV te) := by
  intro pins s σ H Q I h
  refine wpAny_Call_Name_kw (ld_blt I hg hm boot_sum ?_ (by decide) (by decide))
  refine PyProof.Rows.callWith_builtin1 ?_ h2 rfl
  rw [h2]
  show wpAny _ _ (spliced ((false, eval (.Call (.Attribute e "values" apos) [] [] cpos) X.env) :: backTo pos (starEach [] X.env))) _ _ s
  refine Calls.spliced_cons (wpAny_Call_method0_late hbase hline (thn (he pins s σ H _ I h) fun v s1 ⟨y, H1, I1, r1, q1⟩ => ?_))
  obtain ⟨d, m, ns, rfl, ⟨kvs, hd, dk⟩, hmn, q⟩ := q1
  obtain ⟨h1, h2⟩ := tyV_is I1 (T := "dict") r1 (.inr (.inr (.inl ⟨rfl, .inl ⟨kvs, hd⟩⟩)))
  cases r1
  refine ⟨"dict", "dict.values", PySem.F.plainAttrs_dict, PySem.F.slot_dict_values, PySem.F.type_dict_values, h1, h2, Calls.callWith_builtin rfl (PySem.evalArgs_none ?_)⟩
  obtain ⟨_, hs, vs, kv, o, es, ep, ho, a2, a3, a4⟩ := (show ObjOk X.prog X.w H1 s1.heap d (.dK kvs) from I1.hok d _ hd)
  have da : s1.heap.DictAt (mixKind X.prog X.w) d vs ep := ⟨o, es, ho, a2, a3, a4⟩
  have hlt : d < s1.heap.objs.size := Heap.lt_size ho
  have hlen : vs.length = kvs.length := kv.length.symm
  refine call_meetsIn PySem.F.slot_dict_values da.dictOf.typeIs PySem.F.entry_dict_values (PySem.F.args_dict_values_1 _) (meets_dict_values (mixKind X.prog X.w) d hs) ⟨⟨vs, da.dictOf⟩, ?_⟩
  refine Calls.spliced_nil ?_
  have hsz : (s1.heap.push { cls := .type "dict_values", data := .fields #[.ref d] }).objs.size = s1.heap.objs.size + 1 := Heap.size_push ..
  have hA : X.A.in1.handled = none := I1.ok.hd hc
  have hnl : ns.length = kvs.length := by
    have := congrArg List.length hmn
    rw [List.length_map, List.length_map] at this
    rw [← this]; exact dk.length.symm
  refine call_sum_walkAnyB (wpAny_pyIter_values (v := s1.heap.objs.size) ⟨_, Heap.get?_push_size _ rfl, rfl, rfl⟩ (da.push _) ?_)
  refine ⟨_, _, _, _, _, _, _, fun i => ns.getD i 0, rfl, (Walks.dictValues (knd := mixKind X.prog X.w) hA _ d (Nat.ne_of_lt (by rw [hsz]; exact Nat.lt_succ_of_lt hlt)) vs ep).toS, ⟨⟨_, Heap.get?_push_size _ rfl, rfl, rfl⟩, (da.push _).push _⟩, ?_, ?_, ?_⟩
  · intro b hb
    rw [Heap.size_push]
    have : b = (s1.heap.push { cls := .type "dict_values", data := .fields #[.ref d] }).objs.size ∨ b = d := by simpa using hb
    rcases this with rfl | rfl
    · exact Nat.lt_succ_self _
    · rw [hsz]; exact Nat.lt_succ_of_lt (Nat.lt_succ_of_lt hlt)
  · rintro i v ⟨k, hv⟩
    have hi : i < kvs.length := by rw [← hlen]; exact (List.getElem?_eq_some_iff.mp hv).1
    obtain ⟨y, hy, hy2⟩ := paired_get kv (List.getElem?_eq_getElem hi)
    rw [hv] at hy
    cases hy
    obtain ⟨k', dd, hm', hkc, hdv⟩ := dk.getK (List.getElem?_eq_getElem hi)
    have hin : i < ns.length := by omega
    have hdd : dd = .int (ns.getD i 0) := by
      have e1 : (m.map (·.2))[i]? = some dd := by rw [List.getElem?_map, hm']; rfl
      rw [hmn, List.getElem?_map, List.getElem?_eq_getElem hin] at e1
      rw [List.getD_eq_getElem?_getD, List.getElem?_eq_getElem hin]
      exact (Option.some.inj e1).symm
    subst hdd
    have hq := hdv.int_inv
    have r2 := hy2.2
    rw [hq] at r2
    obtain ⟨t, ht⟩ := r2
    exact .inl ⟨t, ht⟩
  · intro s' t' hmv
    rw [hlen, ← hnl, preSum_list]
    obtain ⟨h', g', d', tk', os'⟩ := s'
    have eg : g' = s1.gens := hmv.gens
    have ed : d' = s1.drawn := hmv.drawn
    have eo : os' = s1.os := hmv.os
    subst eg; subst ed; subst eo
    have I2 : Inv X pins σ H1 { s1 with heap := s1.heap.push { cls := .type "dict_values", data := .fields #[.ref d] } } := I1.kept (t' := s1.toks) fun b o e => Heap.get?_push_of_some _ e
    have fp := I2.fpOk (H' := H1) (Nat.le_refl _) (I2.hok.fresh (Nat.le_refl _))
    have I3 := I2.turned (t' := tk') (h' := h') (it := (s1.heap.push { cls := .type "dict_values", data := .fields #[.ref d] }).objs.size) (fun b o hb e => hmv.heap b o (by simpa using hb) (Heap.get?_push_of_some _ e)) fp.1 fp.2.1 fp.2.2.2.1 fp.2.2.2.2.1 fp.2.2.2.2.2
    exact ⟨.int ns.sum, H1, I3, ⟨t', rfl⟩, q⟩
end
section
variable {σ : St} {H : Hp} {Q : VK}
theorem r_maxL {v : V} {ns : List Int} (hp : Dv H v (.list (ns.map PyData.int))) (hl : 0 < ns.length) (h : ∀ m ∈ ns, (∀ k ∈ ns, k ≤ m) → Q (.int m) H) : rMaxL [v] H Q := ⟨v, ns, rfl, hp, hl, h⟩
theorem r_sumVT {te : TE} (h : te σ H fun x H1 => rSumV x H1 Q) : tSumV te σ H Q := h
theorem r_sumV {p : Addr} {m : List (Str × PyData)} {ns : List Int} (hp : DAt H p m) (hm : m.map (·.2) = ns.map PyData.int) (h : Q (.int ns.sum) H) : rSumV (.ref p) H Q := ⟨p, m, ns, rfl, hp, hm, h⟩
end
end L2
namespace L2
open PySem PySem.Spec PyProof.Rows PySem.W
section
variable {σ : St} {H : Hp} {Q : VK} {K : PySem.W.Frag} {v : V}
theorem r_lcET {k : Nat} {ta : TA} {g : TG} {tc : TT} {te : TE} (h : ta σ H fun vs H1 => ∃ a, vs = [.ref a] ∧ (∃ xs, SqL K H1 a xs) ∧ LCW k g tc te (LCFin Q) σ (Itn K a) H1) : tLC k (iEnum K ta) g tc te σ H Q := h
theorem r_lcE {k : Nat} {g : TG} {tc : TT} {te : TE} {α : Type} {cs : List α} {gd : α → PyData} (pf : α × Nat → Bool) (fd : α × Nat → PyData) (hl : Dv H v (.list (cs.map gd))) (hlen : cs.length ≤ 4000) (hi : ∀ c, Imm (fd c) = true)
    (turn : ∀ x c H' (N : Option V → Hp → Prop), c ∈ cs.zipIdx → Same H H' → Dv H' x (.tuple [.int c.2, gd c.1]) → (pf c = true → ∀ y H4, Same H' H4 → Dv H4 y (fd c) → N (some y) H4) → (pf c = false → ∀ H3, Same H' H3 → N none H3) →
      g x (List.replicate k none ++ σ) H' fun σ2 H2 => tc σ2 H2 fun b H3 => LCT te N σ2 b H3)
    (kk : ∀ q H', Same H H' → H q = none → LAt H' q ((cs.zipIdx.filter pf).map fd) → Q (.ref q) H') : ∃ a, [v] = [.ref a] ∧ (∃ xs, SqL K H a xs) ∧ LCW k g tc te (LCFin Q) σ (Itn K a) H := by
  obtain ⟨p, xs, rfl, e, dv⟩ := hl.lst_inv
  have hl0 : SqL K H p xs := e K
  have hxl : xs.length = cs.length := by rw [dv.length, List.length_map]
  have hzl : cs.zipIdx.length = cs.length := List.length_zipIdx
  refine ⟨p, rfl, ⟨xs, hl0⟩, fun i m acc H' => i ≤ cs.length ∧ m = cs.length - i ∧ Same H H' ∧ Dvs H' acc (((cs.zipIdx.take i).filter pf).map fd), ⟨cs.length, Nat.zero_le _, rfl, Same.refl _, by simpa using Dvs.nil⟩, ?_⟩
  rintro i m acc H' ⟨hi1, hm, sm, hacc⟩
  have hl' : SqL K H' p xs := Same.seq sm hl0
  have hal : acc.length ≤ cs.length := by
    rw [hacc.length, List.length_map]
    exact Nat.le_trans (List.length_filter_le _ _) (by rw [List.length_take]; omega)
  by_cases hc : i = cs.length
  · left
    refine ⟨⟨xs, hl', by omega⟩, fun q hq => ?_⟩
    rw [hc, ← hzl, List.take_length] at hacc
    have sm2 : Same H (upd H' q (.lst acc)) := sm.trans (same_upd hq)
    exact kk q _ sm2 (sm.none hq) ⟨acc, upd_same, hacc.keeps (same_upd hq), immAll_map hi _⟩
  · right
    have hlt : i < cs.length := by omega
    have hlx : i < xs.length := by omega
    refine ⟨⟨xs, xs[i], hl', List.getElem?_eq_getElem hlx⟩, smaller (by omega), fun x H2 hy => ?_⟩
    obtain ⟨t, x', hy, rfl, ht, rfl⟩ := hy
    have hx := hy xs hl'
    have hcs : cs[i]? = some cs[i] := List.getElem?_eq_getElem hlt
    obtain ⟨x2, hx2, hd⟩ := dv.get (i := i) (d := gd cs[i]) (by rw [List.getElem?_map, hcs]; rfl)
    rw [hx] at hx2
    cases hx2
    have hzi : cs.zipIdx[i]? = some (cs[i], i) := by rw [List.getElem?_zipIdx, hcs]; simp
    have htk : cs.zipIdx.take (i + 1) = cs.zipIdx.take i ++ [(cs[i], i)] := by rw [List.take_add_one, hzi]; rfl
    have smt : Same H' (upd H' t (.tup [.int i, x'])) := same_upd ht
    have sm2 := sm.trans smt
    exact turn (.ref t) (cs[i], i) _ (fun o H4 => match o with | some y => ∃ m', m' < m ∧ i + 1 ≤ cs.length ∧ m' = cs.length - (i + 1) ∧ Same H H4 ∧ Dvs H4 (acc ++ [y]) (((cs.zipIdx.take (i + 1)).filter pf).map fd) | none => ∃ m', m' < m ∧ i + 1 ≤ cs.length ∧ m' = cs.length - (i + 1) ∧ Same H H4 ∧ Dvs H4 acc (((cs.zipIdx.take (i + 1)).filter pf).map fd))
      (List.mem_of_getElem? hzi) sm2 (.tup upd_same (.cons (.int _) (.cons (hd.keeps sm2) .nil)))
      (fun hp y H4 s4 d4 => ⟨cs.length - (i + 1), by omega, hlt, rfl, sm2.trans s4, by
        rw [htk, List.filter_append, List.map_append]
        simp only [List.filter_cons, hp, if_true, List.filter_nil, List.map_cons, List.map_nil]
        exact Dvs.append (hacc.keeps (smt.trans s4)) (.cons d4 .nil)⟩)
      (fun hp H3 s3 => ⟨cs.length - (i + 1), by omega, hlt, rfl, sm2.trans s3, by
        rw [htk, List.filter_append, List.map_append]
        simp only [List.filter_cons, hp, Bool.false_eq_true, if_false, List.filter_nil, List.map_nil, List.append_nil]
        exact hacc.keeps (smt.trans s3)⟩)
end
end L2

namespace L2
open PySem
theorem slice_sub {z : Str} {lo hi : Option Int} : ∀ c ∈ (sliceS z lo hi).cps.toList, c ∈ z.cps.toList := by
  intro c hc
  unfold sliceS at hc
  have hc : c ∈ (Builtin.Str.strSliceIndices lo hi 1 z.length).filterMap (z.cps[·]?) := by simpa using hc
  obtain ⟨i, _, hi⟩ := List.mem_filterMap.mp hc
  have := Array.mem_of_getElem? hi
  simpa using this
theorem slice_len (z : Str) (lo hi : Option Int) : (sliceS z lo hi).length ≤ z.length := by
  show ((Builtin.Str.strSliceIndices lo hi 1 z.length).filterMap (z.cps[·]?)).toArray.size ≤ _
  rw [List.size_toArray]
  exact Nat.le_trans (List.length_filterMap_le _ _) (idx_len _ _ _)
section
variable {H : Hp} {Q : VK} {K : PySem.W.Frag}
theorem r_slXl {z : Str} {lo hi : Option Int} (hl : z.length ≤ 4000) (h : (sliceS z lo hi).length ≤ z.length → Q (.str (sliceS z lo hi)) H) : rSlX (.str z) lo hi H Q := ⟨z, rfl, hl, h (slice_len z lo hi)⟩
theorem r_ixLx {z : Str} {i : Int} (hz : z.length ≤ 4000) (h0 : 0 ≤ i) (h1 : i < z.length) (h : ∀ c, z.cps.toList[i.toNat]? = some c → Q (.str ⟨#[c]⟩) H) : rIxK K (.str z) (.int i) H Q := by
  obtain ⟨m, rfl⟩ := Int.eq_ofNat_of_zero_le h0
  have hi : m < z.cps.toList.length := by
    have : z.length = z.cps.toList.length := by show z.cps.size = _; simp
    omega
  exact r_ixSt (Nat.le_of_lt (smaller hz)) (atI_nat (List.getElem?_eq_getElem hi)) (h _ (List.getElem?_eq_getElem hi))
end
end L2

set_option maxHeartbeats 4000000
namespace My
open PySem L2
local macro_rules | `(tactic| walk_at "same") => `(tactic| first
  | exact Same.refl _
  | assumption
  | (refine' Same.trans ?m ?s; (case s => assumption); (case m => walk_at "same")))
local macro_rules | `(tactic| walk_at "at") => `(tactic| first
  | assumption
  | exact upd_same
  | (refine' Same.at ?s ?m; (case s => assumption); (case m => walk_at "at")))
local macro_rules | `(tactic| walk_at "dat") => `(tactic| first
  | exact Dv.int _
  | exact Dv.non
  | exact Dv.bl _
  | exact Dv.str _
  | assumption
  | (refine' Dv.keeps ?s ?m; (case s => assumption); (case m => walk_at "dat")))
local macro_rules | `(tactic| walk_at "ins") => `(tactic| first
  | assumption
  | (refine' Ins.keeps ?s ?m; (case s => assumption); (case m => walk_at "ins")))
local macro_rules | `(tactic| walk_at "dats") => `(tactic| first
  | exact Dvs.nil
  | (refine' Dvs.cons ?m ?s; (case m => walk_at "dat"); (case s => walk_at "dats"))
  | assumption
  | (refine' Dvs.keeps ?s ?m; (case s => assumption); (case m => walk_at "dats")))
local macro_rules | `(tactic| walk_at "sql") => `(tactic| first
  | assumption
  | (refine' Same.seq ?s ?m; (case s => assumption); (case m => walk_at "sql")))
local macro_rules | `(tactic| walk_at "isq") => `(tactic| first
  | (refine' Or.inl ?m; case m => walk_at "dat")
  | (refine' Or.inr ?m; case m => walk_at "dat"))
set_option hygiene false in
local macro_rules | `(tactic| walk_at "side") => `(tactic| first
  | omega
  | assumption
  | exact (by decide)
  | exact cdivB (by omega) (by omega)
  | exact cmulB ⟨by omega, by omega⟩ ⟨by omega, by omega⟩
  | exact ⟨by decide, by decide, by decide⟩)
set_option hygiene false in
local macro_rules | `(tactic| walk_at "use") => `(tactic| fail)
set_option hygiene false in
local macro_rules | `(tactic| walk_at "lk") => `(tactic| fail)
set_option hygiene false in
local macro_rules | `(tactic| walk_at "put") => `(tactic| fail)
set_option hygiene false in
local macro_rules | `(tactic| walk_at "fin") => `(tactic| fail)
set_option hygiene false in
local macro_rules | `(tactic| walk_at "wds") => `(tactic| first
  | with_reducible refine r_wd (ws := [_]) rfl ?_
  | with_reducible refine r_wd (ws := [_, _]) rfl ?_
  | with_reducible refine r_wd (ws := [_, _, _]) rfl ?_
  | with_reducible refine r_wd (ws := [_, _, _, _]) rfl ?_
  | with_reducible refine r_wd (ws := [_, _, _, _, _]) rfl ?_
  | with_reducible refine r_wd (ws := [_, _, _, _, _, _]) rfl ?_
  | with_reducible refine r_wd (ws := []) rfl ?_)
set_option hygiene false in
local macro_rules | `(tactic| walk_at "mks") => `(tactic| first
  | fail)
local macro_rules | `(tactic| walk_at "br") => `(tactic| ((with_reducible refine if_bl (fun hb => ?_) (fun hb => ?_)) <;> (try simp only [id, decide_eq_true_eq, decide_eq_false_iff_not, Bool.not_eq_true', Bool.not_eq_false', Bool.not_true, Bool.not_false, V.int.injEq, Bool.true_eq_false, Bool.false_eq_true, reduceCtorEq, decide_true, decide_false, not_true, not_false_iff, PyData.eqv, PyData.eqvAll, Bool.and_eq_true, Bool.and_eq_false_iff, Bool.or_eq_true, Bool.or_eq_false_iff, beq_iff_eq, beq_eq_false_iff_ne, ne_eq, bne_iff_ne, Bool.and_true, Bool.and_false, Bool.and_self, beq_self_eq_true, isInt, isBool, isStr, isLst, isTup, isDct, List.length_cons, List.length_nil] at hb) <;> (try (exfalso; omega)) <;> (try (exfalso; (refine' ref_ne hb ?d); (case d => walk_at "dat")))))
local macro_rules | `(tactic| walk_at "rd1") => `(tactic| first
  | with_reducible refine r_cutS ?_
  | with_reducible refine r_asg ?_
  | with_reducible refine r_ret ?_
  | with_reducible refine r_drop ?_
  | with_reducible refine r_ifS ?_
  | ((with_reducible refine' r_var ?e ?_); case e => exact rfl)
  | with_reducible refine r_c ?_
  | with_reducible refine r_op ?_
  | with_reducible refine r_i0 ?_
  | ((with_reducible refine' r_powE ?e1 ?e2 ?_); (case e1 => exact ⟨by decide, by decide, by decide⟩); (case e2 => ((conv => lhs; simp only [Int.reduceToNat]) <;> exact rfl)))
  | ((with_reducible refine' r_i ?e ?_); case e => walk_at "side")
  | with_reducible refine r_cons ?_
  | with_reducible refine r_nil ?_
  | with_reducible refine r_callN ?_
  | with_reducible refine r_cb ?_
  | with_reducible refine r_test ?_
  | with_reducible refine r_not ?_
  | with_reducible refine r_bl ?_
  | with_reducible refine r_truB ?_
  | with_reducible refine if_false' ?_
  | walk_at "br"
  | with_reducible refine r_next ?_
  | ((with_reducible refine' r_eqS ?e ?_); case e => exact rfl)
  | ((with_reducible refine' r_eqD ?e1 ?e2 ?e3 ?e4 ?e5 ?_); (case e1 => walk_at "dat"); (case e2 => walk_at "dat"); (case e3 => first | rfl | assumption); (case e4 => first | rfl | assumption); (case e5 => first | exact Nat.le_of_ble_eq_true rfl | assumption))
  | ((with_reducible refine' r_ixD ?e1 ?e2 ?_); (case e1 => walk_at "isq"); (case e2 => exact rfl))
  | ((with_reducible refine' r_lenK ?e ?_); case e => walk_at "isq")
  | ((with_reducible refine' r_lenL ?e ?_); case e => walk_at "sql")
  | with_reducible refine r_minP (fun _ _ _ _ => ?_)
  | ((with_reducible refine' r_modP ?e (fun _ _ => ?_)); case e => walk_at "side")
  | with_reducible refine r_is ?_
  | with_reducible refine got_int ?_
  | with_reducible refine got_str ?_
  | with_reducible refine got_tup (fun _ _ => ?_)
  | with_reducible refine r_tupD ?_
  | ((with_reducible refine' r_tupE ?e1 ?e2 (fun _ _ _ _ => ?_)); (case e1 => exact len64 rfl); (case e2 => walk_at "dats"))
  | with_reducible refine r_lstD ?_
  | with_reducible refine r_turn ?_
  | with_reducible refine r_for ?_
  | with_reducible refine r_forR1 ?_
  | ((with_reducible refine' r_rng1 ?e1 ?e2 ?_); (case e1 => omega); (case e2 => omega))
  | walk_at "wds"
  | walk_at "mks"
  | walk_at "use"
  | walk_at "fin")
local macro_rules | `(tactic| walk_at "lat") => `(tactic| first
  | assumption
  | (refine' LAt.keeps ?s ?m; (case s => assumption); (case m => walk_at "lat"))
  | (refine' LAt.mv ?s ?n ?m; (case s => assumption); (case n => walk_at "nin"); (case m => walk_at "lat"))
  | fail)
local macro_rules | `(tactic| walk_at "nin") => `(tactic| first
  | (refine' notin1 ?n1; (case n1 => walk_at "ne"))
  | fail)
local macro_rules | `(tactic| walk_at "ne") => `(tactic| first
  | assumption
  | (refine Ne.symm ?_; assumption)
  | (refine' LAt.ne ?h ?n; (case n => assumption); (case h => walk_at "lat"))
  | (refine' Ne.symm (LAt.ne ?h ?n); (case n => assumption); (case h => walk_at "lat"))
  | fail)
local macro_rules | `(tactic| walk_at "dla") => `(tactic| first
  | assumption
  | (refine' DAt.keeps ?s ?m; (case s => assumption); (case m => walk_at "dla"))
  | (refine' DAt.mv ?s ?n ?m; (case s => assumption); (case n => walk_at "nin"); (case m => walk_at "dla"))
  | fail)
local macro_rules | `(tactic| walk_at "ne") => `(tactic| first
  | (refine' DAt.ne ?h ?n; (case n => assumption); (case h => walk_at "dla"))
  | (refine' Ne.symm (DAt.ne ?h ?n); (case n => assumption); (case h => walk_at "dla"))
  | fail)
local macro_rules | `(tactic| walk_at "imm") => `(tactic| first
  | rfl
  | assumption
  | exact immAll_map (fun _ => rfl) _
  | (refine' LAt.imm ?h; (case h => assumption))
  | fail)
local macro_rules | `(tactic| walk_at "dm") => `(tactic| first
  | exact fun _ h => h
  | (refine' dm_trans ?a ?b; (case b => first | (refine' Same.dm' ?c; (case c => assumption)) | (refine' Mv.dm ?c; (case c => assumption)) | fail); (case a => walk_at "dm"))
  | fail)
local macro_rules | `(tactic| walk_at "none") => `(tactic| first
  | assumption
  | (refine' dm_use ?s ?m; (case m => assumption); (case s => walk_at "dm"))
  | fail)
local macro_rules | `(tactic| walk_at "same") => `(tactic| first
  | (refine' Mv.sameN ?s ?m ?n; (case m => assumption); (case s => walk_at "same"); (case n => walk_at "none"))
  | fail)
local macro_rules | `(tactic| walk_at "mv") => `(tactic| first
  | exact Mv.refl
  | assumption
  | (refine' Mv.stepS ?m ?s; (case s => assumption); (case m => walk_at "mv"))
  | (refine' Mv.step ?m ?s ?h; (case s => assumption); (case m => walk_at "mv"); (case h => walk_at "ours"))
  | fail)
local macro_rules | `(tactic| walk_at "ours") => `(tactic| first
  | (refine' ours1 (Or.inr ?h); (case h => walk_at "none"))
  | exact ours1 (Or.inl (by simp))
  | fail)
local macro_rules | `(tactic| walk_at "dat") => `(tactic| first
  | (refine' LAt.dv ?m; (case m => walk_at "lat"))
  | fail)
local macro_rules | `(tactic| walk_at "dats") => `(tactic| first
  | (refine' Mv.dats ?s ?i ?m; (case s => assumption); (case i => walk_at "imm"); (case m => walk_at "dats"))
  | fail)
set_option hygiene false in
local macro_rules | `(tactic| walk_at "len") => `(tactic| first
  | (simp only [List.length_map, List.length_append, List.length_cons, List.length_nil]; omega)
  | omega
  | fail)
local macro_rules | `(tactic| walk_at "rd1") => `(tactic| first
  | ((with_reducible refine' r_lenSt ?e ?_); case e => walk_at "len")
  | with_reducible refine r_chain ?_
  | with_reducible refine r_dnew (fun _ _ _ _ _ => ?_)
  | with_reducible refine r_dputT ?_
  | with_reducible refine r_dgetT ?_
  | ((with_reducible refine' r_dput ?e1 ?e2 ?e3 ?e4 (fun _ _ _ => ?_)); (case e1 => walk_at "dla"); (case e3 => walk_at "dat"); (case e2 => walk_at "len"); (case e4 => walk_at "imm"))
  | ((with_reducible refine' r_dget ?e1 ?e2 ?_); (case e1 => walk_at "dla"); (case e2 => assumption))
  | with_reducible refine r_gname ?_
  | with_reducible refine r_bm ?_
  | ((with_reducible refine' r_tyL ?e ?_); case e => walk_at "lat")
  | ((with_reducible refine' r_app ?e1 ?e2 ?e3 ?e4 (fun _ _ _ => ?_)); (case e1 => walk_at "lat"); (case e3 => walk_at "dat"); (case e2 => walk_at "len"); (case e4 => walk_at "imm"))
  | ((with_reducible refine' r_lstA ?e1 ?e2 ?e3 (fun _ _ _ _ _ => ?_)); (case e1 => exact len64 rfl); (case e2 => walk_at "dats"); (case e3 => exact rfl))
  | with_reducible refine r_sortKT ?_
  | with_reducible refine r_sl ?_
  | with_reducible refine r_part ?_
  | with_reducible refine r_noPart ?_
  | with_reducible refine r_partI ?_
  | with_reducible refine r_lcT ?_
  | ((with_reducible refine' r_listOf ?e1 ?e2 (fun _ _ _ _ _ => ?_)); (case e1 => walk_at "dat"); (case e2 => walk_at "imm"))
  | ((with_reducible refine' r_inS ?e ?_); case e => walk_at "dat")
  | ((with_reducible refine' r_addS ?e ?_); case e => walk_at "len")
  | ((with_reducible refine' r_lenM ?e ?_); case e => walk_at "dat")
  | ((with_reducible refine' r_ixD ?e1 ?e2 ?_); (case e1 => walk_at "isq"); (case e2 => first | exact atI_lastM | (refine' atI_mapI ?a ?b; (case a => omega); (case b => walk_at "len")) | fail))
  | fail)
set_option hygiene false in
local macro_rules | `(tactic| walk_at "rd1") => `(tactic| first
  | fail)
local macro_rules | `(tactic| walk_at "rd1") => `(tactic| first
  | ((with_reducible refine' r_sumL ?e1 ?_); (case e1 => walk_at "dat"))
  | ((with_reducible refine' r_sortS ?e1 ?e2 (fun _ _ _ _ _ _ _ _ => ?_)); (case e1 => walk_at "dat"); (case e2 => walk_at "len"))
  | fail)
set_option hygiene false in
local macro_rules | `(tactic| walk_at "rd1") => `(tactic| first
  | fail)
set_option hygiene false in
local macro_rules | `(tactic| walk_at "rd1") => `(tactic| first
  | with_reducible refine r_lcET ?_
  | with_reducible refine r_sumVT ?_
  | fail)

def top (i : Nat) : Stmt := PySem.Challenge.pw_wakefew_k45_shares_against_wakings.main.body.getD i (.Pass ⟨0, 0, 0, 0⟩)
abbrev s_by_last : Stmt := top 1
theorem sc_by_last : FnScope ["claim"] ["claim"] (defScope s_by_last) := ⟨rfl, rfl, rfl, by decide +kernel, rfl, by decide +kernel, by decide +kernel⟩
abbrev s_first_within : Stmt := top 2
theorem sc_first_within : FnScope ["wakings", "first", "last", "waking"] ["wakings", "first", "last"] (defScope s_first_within) := ⟨rfl, rfl, rfl, by decide +kernel, rfl, by decide +kernel, by decide +kernel⟩
abbrev s_is_rung : Stmt := top 4
theorem sc_is_rung : FnScope ["wakings", "claim"] ["wakings", "claim"] (defScope s_is_rung) := ⟨rfl, rfl, rfl, by decide +kernel, rfl, by decide +kernel, by decide +kernel⟩
abbrev s_weight_of : Stmt := top 5
theorem sc_weight_of : FnScope ["wakings", "claims"] ["wakings", "claims"] (defScope s_weight_of) := ⟨rfl, rfl, rfl, by decide +kernel, rfl, by decide +kernel, by decide +kernel⟩
abbrev s_gave_way : Stmt := top 6
theorem sc_gave_way : FnScope ["wakings", "claims"] ["wakings", "claims"] (defScope s_gave_way) := ⟨rfl, rfl, rfl, by decide +kernel, rfl, by decide +kernel, by decide +kernel⟩
abbrev s_shares_at : Stmt := top 7
theorem sc_shares_at : FnScope ["price", "claims", "points", "loads", "shares", "name", "first", "last", "weight", "held", "place"] ["price", "claims"] (defScope s_shares_at) := ⟨rfl, rfl, rfl, by decide +kernel, rfl, by decide +kernel, by decide +kernel⟩
abbrev s__law_cell_at : Stmt := top 9
theorem sc__law_cell_at : FnScope ["_law_script", "_law_k"] ["_law_script", "_law_k"] (defScope s__law_cell_at) := ⟨rfl, rfl, rfl, by decide +kernel, rfl, by decide +kernel, by decide +kernel⟩
abbrev s__law_mixed : Stmt := top 10
theorem sc__law_mixed : FnScope ["_law_number"] ["_law_number"] (defScope s__law_mixed) := ⟨rfl, rfl, rfl, by decide +kernel, rfl, by decide +kernel, by decide +kernel⟩
abbrev s__law_name : Stmt := top 11
theorem sc__law_name : FnScope ["_law_cell", "_law_k", "_law_some", "_law_sign", "_law_rest", "_law_place", "_law_tail"] ["_law_cell", "_law_k"] (defScope s__law_name) := ⟨rfl, rfl, rfl, by decide +kernel, rfl, by decide +kernel, by decide +kernel⟩
abbrev s__law_cells : Stmt := top 12
theorem sc__law_cells : FnScope ["_law_script", "_law_many", "_law_found", "_law_number"] ["_law_script", "_law_many"] (defScope s__law_cells) := ⟨rfl, rfl, rfl, by decide +kernel, rfl, by decide +kernel, by decide +kernel⟩
abbrev s__law_claims : Stmt := top 13
theorem sc__law_claims : FnScope ["_law_script", "_law_many", "_law_shape", "_law_cells_here", "_law_way", "_law_found", "_law_k", "_law_cell", "_law_other", "_law_first", "_law_last", "_law_weight"] ["_law_script", "_law_many"] (defScope s__law_claims) := ⟨rfl, rfl, rfl, by decide +kernel, rfl, by decide +kernel, by decide +kernel⟩
abbrev s__law_price : Stmt := top 14
theorem sc__law_price : FnScope ["_law_claims_here", "_law_cell"] ["_law_claims_here", "_law_cell"] (defScope s__law_price) := ⟨rfl, rfl, rfl, by decide +kernel, rfl, by decide +kernel, by decide +kernel⟩
abbrev s__law_times : Stmt := top 15
theorem sc__law_times : FnScope ["_law_claims_here", "_law_cell", "_law_many", "_law_found", "_law_k", "_law_first", "_law_last", "_law_within"] ["_law_claims_here", "_law_cell", "_law_many"] (defScope s__law_times) := ⟨rfl, rfl, rfl, by decide +kernel, rfl, by decide +kernel, by decide +kernel⟩
abbrev s_law : Stmt := top 16
theorem sc_law : FnScope ["_law_script", "_law_many", "_law_claims_here", "_law_price_here", "_law_times_here", "_law_shares", "_law_bound", "_law_one", "_law_left", "_law_lost"] ["_law_script"] (defScope s_law) := ⟨rfl, rfl, rfl, by decide +kernel, rfl, by decide +kernel, by decide +kernel⟩
set_option genSizeOf false in
set_option genInjectivity false in
structure Ad where
  f_by_last : Addr
  fd_by_last : FuncData
  f_first_within : Addr
  fd_first_within : FuncData
  f_is_rung : Addr
  fd_is_rung : FuncData
  f_weight_of : Addr
  fd_weight_of : FuncData
  f_gave_way : Addr
  fd_gave_way : FuncData
  f_shares_at : Addr
  fd_shares_at : FuncData
  f__law_cell_at : Addr
  fd__law_cell_at : FuncData
  f__law_mixed : Addr
  fd__law_mixed : FuncData
  f__law_name : Addr
  fd__law_name : FuncData
  f__law_cells : Addr
  fd__law_cells : FuncData
  f__law_claims : Addr
  fd__law_claims : FuncData
  f__law_price : Addr
  fd__law_price : FuncData
  f__law_times : Addr
  fd__law_times : FuncData
  f_law : Addr
  fd_law : FuncData
structure Txt (K : PySem.W.Frag) (mg : Str → Option Value) (a : Ad) : Prop where
  F_by_last : FunD K "by_last" "by_last" s_by_last a.f_by_last (.none) a.fd_by_last
  kp_by_last : PySem.W.keepIn K (.ref a.f_by_last) = true
  mg_by_last : mg "by_last" = some (.ref a.f_by_last)
  F_first_within : FunD K "first_within" "first_within" s_first_within a.f_first_within (.none) a.fd_first_within
  kp_first_within : PySem.W.keepIn K (.ref a.f_first_within) = true
  mg_first_within : mg "first_within" = some (.ref a.f_first_within)
  F_is_rung : FunD K "is_rung" "is_rung" s_is_rung a.f_is_rung (.none) a.fd_is_rung
  kp_is_rung : PySem.W.keepIn K (.ref a.f_is_rung) = true
  mg_is_rung : mg "is_rung" = some (.ref a.f_is_rung)
  F_weight_of : FunD K "weight_of" "weight_of" s_weight_of a.f_weight_of (.none) a.fd_weight_of
  kp_weight_of : PySem.W.keepIn K (.ref a.f_weight_of) = true
  mg_weight_of : mg "weight_of" = some (.ref a.f_weight_of)
  F_gave_way : FunD K "gave_way" "gave_way" s_gave_way a.f_gave_way (.none) a.fd_gave_way
  kp_gave_way : PySem.W.keepIn K (.ref a.f_gave_way) = true
  mg_gave_way : mg "gave_way" = some (.ref a.f_gave_way)
  F_shares_at : FunD K "shares_at" "shares_at" s_shares_at a.f_shares_at (.none) a.fd_shares_at
  kp_shares_at : PySem.W.keepIn K (.ref a.f_shares_at) = true
  mg_shares_at : mg "shares_at" = some (.ref a.f_shares_at)
  F__law_cell_at : FunD K "_law_cell_at" "_law_cell_at" s__law_cell_at a.f__law_cell_at (.none) a.fd__law_cell_at
  kp__law_cell_at : PySem.W.keepIn K (.ref a.f__law_cell_at) = true
  mg__law_cell_at : mg "_law_cell_at" = some (.ref a.f__law_cell_at)
  F__law_mixed : FunD K "_law_mixed" "_law_mixed" s__law_mixed a.f__law_mixed (.none) a.fd__law_mixed
  kp__law_mixed : PySem.W.keepIn K (.ref a.f__law_mixed) = true
  mg__law_mixed : mg "_law_mixed" = some (.ref a.f__law_mixed)
  F__law_name : FunD K "_law_name" "_law_name" s__law_name a.f__law_name (.none) a.fd__law_name
  kp__law_name : PySem.W.keepIn K (.ref a.f__law_name) = true
  mg__law_name : mg "_law_name" = some (.ref a.f__law_name)
  F__law_cells : FunD K "_law_cells" "_law_cells" s__law_cells a.f__law_cells (.none) a.fd__law_cells
  kp__law_cells : PySem.W.keepIn K (.ref a.f__law_cells) = true
  mg__law_cells : mg "_law_cells" = some (.ref a.f__law_cells)
  F__law_claims : FunD K "_law_claims" "_law_claims" s__law_claims a.f__law_claims (.none) a.fd__law_claims
  kp__law_claims : PySem.W.keepIn K (.ref a.f__law_claims) = true
  mg__law_claims : mg "_law_claims" = some (.ref a.f__law_claims)
  F__law_price : FunD K "_law_price" "_law_price" s__law_price a.f__law_price (.none) a.fd__law_price
  kp__law_price : PySem.W.keepIn K (.ref a.f__law_price) = true
  mg__law_price : mg "_law_price" = some (.ref a.f__law_price)
  F__law_times : FunD K "_law_times" "_law_times" s__law_times a.f__law_times (.none) a.fd__law_times
  kp__law_times : PySem.W.keepIn K (.ref a.f__law_times) = true
  mg__law_times : mg "_law_times" = some (.ref a.f__law_times)
  F_law : FunD K "law" "law" s_law a.f_law (.none) a.fd_law
  kp_law : PySem.W.keepIn K (.ref a.f_law) = true
  mg_law : mg "law" = some (.ref a.f_law)
  no_enumerate : mg "enumerate" = none
  no_len : mg "len" = none
  no_list : mg "list" = none
  no_max : mg "max" = none
  no_min : mg "min" = none
  no_range : mg "range" = none
  no_set : mg "set" = none
  no_sorted : mg "sorted" = none
  no_sum : mg "sum" = none
theorem txt_mk {K : PySem.W.Frag} {h : Heap} {mg : Str → Option Value} {f_by_last f_first_within f_is_rung f_weight_of f_gave_way f_shares_at f__law_cell_at f__law_mixed f__law_name f__law_cells f__law_claims f__law_price f__law_times f_law : Addr} {od_by_last an_by_last : Option Addr} {sl_by_last : Array (Option Value)} {oc_by_last kV_by_last dc_by_last pm_by_last cd_by_last ct_by_last : Value} {od_first_within an_first_within : Option Addr} {sl_first_within : Array (Option Value)} {oc_first_within kV_first_within dc_first_within pm_first_within cd_first_within ct_first_within : Value} {od_is_rung an_is_rung : Option Addr} {sl_is_rung : Array (Option Value)} {oc_is_rung kV_is_rung dc_is_rung pm_is_rung cd_is_rung ct_is_rung : Value} {od_weight_of an_weight_of : Option Addr} {sl_weight_of : Array (Option Value)} {oc_weight_of kV_weight_of dc_weight_of pm_weight_of cd_weight_of ct_weight_of : Value} {od_gave_way an_gave_way : Option Addr} {sl_gave_way : Array (Option Value)} {oc_gave_way kV_gave_way dc_gave_way pm_gave_way cd_gave_way ct_gave_way : Value} {od_shares_at an_shares_at : Option Addr} {sl_shares_at : Array (Option Value)} {oc_shares_at kV_shares_at dc_shares_at pm_shares_at cd_shares_at ct_shares_at : Value} {od__law_cell_at an__law_cell_at : Option Addr} {sl__law_cell_at : Array (Option Value)} {oc__law_cell_at kV__law_cell_at dc__law_cell_at pm__law_cell_at cd__law_cell_at ct__law_cell_at : Value} {od__law_mixed an__law_mixed : Option Addr} {sl__law_mixed : Array (Option Value)} {oc__law_mixed kV__law_mixed dc__law_mixed pm__law_mixed cd__law_mixed ct__law_mixed : Value} {od__law_name an__law_name : Option Addr} {sl__law_name : Array (Option Value)} {oc__law_name kV__law_name dc__law_name pm__law_name cd__law_name ct__law_name : Value} {od__law_cells an__law_cells : Option Addr} {sl__law_cells : Array (Option Value)} {oc__law_cells kV__law_cells dc__law_cells pm__law_cells cd__law_cells ct__law_cells : Value} {od__law_claims an__law_claims : Option Addr} {sl__law_claims : Array (Option Value)} {oc__law_claims kV__law_claims dc__law_claims pm__law_claims cd__law_claims ct__law_claims : Value} {od__law_price an__law_price : Option Addr} {sl__law_price : Array (Option Value)} {oc__law_price kV__law_price dc__law_price pm__law_price cd__law_price ct__law_price : Value} {od__law_times an__law_times : Option Addr} {sl__law_times : Array (Option Value)} {oc__law_times kV__law_times dc__law_times pm__law_times cd__law_times ct__law_times : Value} {od_law an_law : Option Addr} {sl_law : Array (Option Value)} {oc_law kV_law dc_law pm_law cd_law ct_law : Value} (X : K.In h) (G : h.Ns mainGlobals mg)
    (hgg : PySem.W.specialIn K (.builtin "object.__class__") "__get__" = some (some (.builtin "getset_descriptor.__get__")))
    (htt : PySem.W.takesIn K (.builtin "object.__class__") = some true)
    (a_by_last : PySem.W.nsIn K mainGlobals "by_last" = some (some (.ref f_by_last)))
    (l_by_last : K.lookup f_by_last = some ⟨oc_by_last, od_by_last, .func (PySem.W.fnOf "by_last" "by_last" (defArgs s_by_last) (defBody s_by_last) (defScope s_by_last) (.none) kV_by_last dc_by_last pm_by_last an_by_last cd_by_last ct_by_last), sl_by_last⟩)
    (c_by_last : PySem.W.codeIn K cd_by_last "by_last" = true)
    (k_by_last : PySem.W.keepIn K (.ref f_by_last) = true)
    (a_first_within : PySem.W.nsIn K mainGlobals "first_within" = some (some (.ref f_first_within)))
    (l_first_within : K.lookup f_first_within = some ⟨oc_first_within, od_first_within, .func (PySem.W.fnOf "first_within" "first_within" (defArgs s_first_within) (defBody s_first_within) (defScope s_first_within) (.none) kV_first_within dc_first_within pm_first_within an_first_within cd_first_within ct_first_within), sl_first_within⟩)
    (c_first_within : PySem.W.codeIn K cd_first_within "first_within" = true)
    (k_first_within : PySem.W.keepIn K (.ref f_first_within) = true)
    (a_is_rung : PySem.W.nsIn K mainGlobals "is_rung" = some (some (.ref f_is_rung)))
    (l_is_rung : K.lookup f_is_rung = some ⟨oc_is_rung, od_is_rung, .func (PySem.W.fnOf "is_rung" "is_rung" (defArgs s_is_rung) (defBody s_is_rung) (defScope s_is_rung) (.none) kV_is_rung dc_is_rung pm_is_rung an_is_rung cd_is_rung ct_is_rung), sl_is_rung⟩)
    (c_is_rung : PySem.W.codeIn K cd_is_rung "is_rung" = true)
    (k_is_rung : PySem.W.keepIn K (.ref f_is_rung) = true)
    (a_weight_of : PySem.W.nsIn K mainGlobals "weight_of" = some (some (.ref f_weight_of)))
    (l_weight_of : K.lookup f_weight_of = some ⟨oc_weight_of, od_weight_of, .func (PySem.W.fnOf "weight_of" "weight_of" (defArgs s_weight_of) (defBody s_weight_of) (defScope s_weight_of) (.none) kV_weight_of dc_weight_of pm_weight_of an_weight_of cd_weight_of ct_weight_of), sl_weight_of⟩)
    (c_weight_of : PySem.W.codeIn K cd_weight_of "weight_of" = true)
    (k_weight_of : PySem.W.keepIn K (.ref f_weight_of) = true)
    (a_gave_way : PySem.W.nsIn K mainGlobals "gave_way" = some (some (.ref f_gave_way)))
    (l_gave_way : K.lookup f_gave_way = some ⟨oc_gave_way, od_gave_way, .func (PySem.W.fnOf "gave_way" "gave_way" (defArgs s_gave_way) (defBody s_gave_way) (defScope s_gave_way) (.none) kV_gave_way dc_gave_way pm_gave_way an_gave_way cd_gave_way ct_gave_way), sl_gave_way⟩)
    (c_gave_way : PySem.W.codeIn K cd_gave_way "gave_way" = true)
    (k_gave_way : PySem.W.keepIn K (.ref f_gave_way) = true)
    (a_shares_at : PySem.W.nsIn K mainGlobals "shares_at" = some (some (.ref f_shares_at)))
    (l_shares_at : K.lookup f_shares_at = some ⟨oc_shares_at, od_shares_at, .func (PySem.W.fnOf "shares_at" "shares_at" (defArgs s_shares_at) (defBody s_shares_at) (defScope s_shares_at) (.none) kV_shares_at dc_shares_at pm_shares_at an_shares_at cd_shares_at ct_shares_at), sl_shares_at⟩)
    (c_shares_at : PySem.W.codeIn K cd_shares_at "shares_at" = true)
    (k_shares_at : PySem.W.keepIn K (.ref f_shares_at) = true)
    (a__law_cell_at : PySem.W.nsIn K mainGlobals "_law_cell_at" = some (some (.ref f__law_cell_at)))
    (l__law_cell_at : K.lookup f__law_cell_at = some ⟨oc__law_cell_at, od__law_cell_at, .func (PySem.W.fnOf "_law_cell_at" "_law_cell_at" (defArgs s__law_cell_at) (defBody s__law_cell_at) (defScope s__law_cell_at) (.none) kV__law_cell_at dc__law_cell_at pm__law_cell_at an__law_cell_at cd__law_cell_at ct__law_cell_at), sl__law_cell_at⟩)
    (c__law_cell_at : PySem.W.codeIn K cd__law_cell_at "_law_cell_at" = true)
    (k__law_cell_at : PySem.W.keepIn K (.ref f__law_cell_at) = true)
    (a__law_mixed : PySem.W.nsIn K mainGlobals "_law_mixed" = some (some (.ref f__law_mixed)))
    (l__law_mixed : K.lookup f__law_mixed = some ⟨oc__law_mixed, od__law_mixed, .func (PySem.W.fnOf "_law_mixed" "_law_mixed" (defArgs s__law_mixed) (defBody s__law_mixed) (defScope s__law_mixed) (.none) kV__law_mixed dc__law_mixed pm__law_mixed an__law_mixed cd__law_mixed ct__law_mixed), sl__law_mixed⟩)
    (c__law_mixed : PySem.W.codeIn K cd__law_mixed "_law_mixed" = true)
    (k__law_mixed : PySem.W.keepIn K (.ref f__law_mixed) = true)
    (a__law_name : PySem.W.nsIn K mainGlobals "_law_name" = some (some (.ref f__law_name)))
    (l__law_name : K.lookup f__law_name = some ⟨oc__law_name, od__law_name, .func (PySem.W.fnOf "_law_name" "_law_name" (defArgs s__law_name) (defBody s__law_name) (defScope s__law_name) (.none) kV__law_name dc__law_name pm__law_name an__law_name cd__law_name ct__law_name), sl__law_name⟩)
    (c__law_name : PySem.W.codeIn K cd__law_name "_law_name" = true)
    (k__law_name : PySem.W.keepIn K (.ref f__law_name) = true)
    (a__law_cells : PySem.W.nsIn K mainGlobals "_law_cells" = some (some (.ref f__law_cells)))
    (l__law_cells : K.lookup f__law_cells = some ⟨oc__law_cells, od__law_cells, .func (PySem.W.fnOf "_law_cells" "_law_cells" (defArgs s__law_cells) (defBody s__law_cells) (defScope s__law_cells) (.none) kV__law_cells dc__law_cells pm__law_cells an__law_cells cd__law_cells ct__law_cells), sl__law_cells⟩)
    (c__law_cells : PySem.W.codeIn K cd__law_cells "_law_cells" = true)
    (k__law_cells : PySem.W.keepIn K (.ref f__law_cells) = true)
    (a__law_claims : PySem.W.nsIn K mainGlobals "_law_claims" = some (some (.ref f__law_claims)))
    (l__law_claims : K.lookup f__law_claims = some ⟨oc__law_claims, od__law_claims, .func (PySem.W.fnOf "_law_claims" "_law_claims" (defArgs s__law_claims) (defBody s__law_claims) (defScope s__law_claims) (.none) kV__law_claims dc__law_claims pm__law_claims an__law_claims cd__law_claims ct__law_claims), sl__law_claims⟩)
    (c__law_claims : PySem.W.codeIn K cd__law_claims "_law_claims" = true)
    (k__law_claims : PySem.W.keepIn K (.ref f__law_claims) = true)
    (a__law_price : PySem.W.nsIn K mainGlobals "_law_price" = some (some (.ref f__law_price)))
    (l__law_price : K.lookup f__law_price = some ⟨oc__law_price, od__law_price, .func (PySem.W.fnOf "_law_price" "_law_price" (defArgs s__law_price) (defBody s__law_price) (defScope s__law_price) (.none) kV__law_price dc__law_price pm__law_price an__law_price cd__law_price ct__law_price), sl__law_price⟩)
    (c__law_price : PySem.W.codeIn K cd__law_price "_law_price" = true)
    (k__law_price : PySem.W.keepIn K (.ref f__law_price) = true)
    (a__law_times : PySem.W.nsIn K mainGlobals "_law_times" = some (some (.ref f__law_times)))
    (l__law_times : K.lookup f__law_times = some ⟨oc__law_times, od__law_times, .func (PySem.W.fnOf "_law_times" "_law_times" (defArgs s__law_times) (defBody s__law_times) (defScope s__law_times) (.none) kV__law_times dc__law_times pm__law_times an__law_times cd__law_times ct__law_times), sl__law_times⟩)
    (c__law_times : PySem.W.codeIn K cd__law_times "_law_times" = true)
    (k__law_times : PySem.W.keepIn K (.ref f__law_times) = true)
    (a_law : PySem.W.nsIn K mainGlobals "law" = some (some (.ref f_law)))
    (l_law : K.lookup f_law = some ⟨oc_law, od_law, .func (PySem.W.fnOf "law" "law" (defArgs s_law) (defBody s_law) (defScope s_law) (.none) kV_law dc_law pm_law an_law cd_law ct_law), sl_law⟩)
    (c_law : PySem.W.codeIn K cd_law "law" = true)
    (k_law : PySem.W.keepIn K (.ref f_law) = true)
    (no_enumerate : PySem.W.nsIn K mainGlobals "enumerate" = some none)
    (no_len : PySem.W.nsIn K mainGlobals "len" = some none)
    (no_list : PySem.W.nsIn K mainGlobals "list" = some none)
    (no_max : PySem.W.nsIn K mainGlobals "max" = some none)
    (no_min : PySem.W.nsIn K mainGlobals "min" = some none)
    (no_range : PySem.W.nsIn K mainGlobals "range" = some none)
    (no_set : PySem.W.nsIn K mainGlobals "set" = some none)
    (no_sorted : PySem.W.nsIn K mainGlobals "sorted" = some none)
    (no_sum : PySem.W.nsIn K mainGlobals "sum" = some none)
    : ∃ a : Ad, a.f_law = a.f_law ∧ Txt K mg a :=
  ⟨⟨f_by_last, _, f_first_within, _, f_is_rung, _, f_weight_of, _, f_gave_way, _, f_shares_at, _, f__law_cell_at, _, f__law_mixed, _, f__law_name, _, f__law_cells, _, f__law_claims, _, f__law_price, _, f__law_times, _, f_law, _⟩, rfl, {
    F_by_last := funD_mk l_by_last c_by_last,
    kp_by_last := k_by_last,
    mg_by_last := PySem.W.mg_of X G a_by_last,
    F_first_within := funD_mk l_first_within c_first_within,
    kp_first_within := k_first_within,
    mg_first_within := PySem.W.mg_of X G a_first_within,
    F_is_rung := funD_mk l_is_rung c_is_rung,
    kp_is_rung := k_is_rung,
    mg_is_rung := PySem.W.mg_of X G a_is_rung,
    F_weight_of := funD_mk l_weight_of c_weight_of,
    kp_weight_of := k_weight_of,
    mg_weight_of := PySem.W.mg_of X G a_weight_of,
    F_gave_way := funD_mk l_gave_way c_gave_way,
    kp_gave_way := k_gave_way,
    mg_gave_way := PySem.W.mg_of X G a_gave_way,
    F_shares_at := funD_mk l_shares_at c_shares_at,
    kp_shares_at := k_shares_at,
    mg_shares_at := PySem.W.mg_of X G a_shares_at,
    F__law_cell_at := funD_mk l__law_cell_at c__law_cell_at,
    kp__law_cell_at := k__law_cell_at,
    mg__law_cell_at := PySem.W.mg_of X G a__law_cell_at,
    F__law_mixed := funD_mk l__law_mixed c__law_mixed,
    kp__law_mixed := k__law_mixed,
    mg__law_mixed := PySem.W.mg_of X G a__law_mixed,
    F__law_name := funD_mk l__law_name c__law_name,
    kp__law_name := k__law_name,
    mg__law_name := PySem.W.mg_of X G a__law_name,
    F__law_cells := funD_mk l__law_cells c__law_cells,
    kp__law_cells := k__law_cells,
    mg__law_cells := PySem.W.mg_of X G a__law_cells,
    F__law_claims := funD_mk l__law_claims c__law_claims,
    kp__law_claims := k__law_claims,
    mg__law_claims := PySem.W.mg_of X G a__law_claims,
    F__law_price := funD_mk l__law_price c__law_price,
    kp__law_price := k__law_price,
    mg__law_price := PySem.W.mg_of X G a__law_price,
    F__law_times := funD_mk l__law_times c__law_times,
    kp__law_times := k__law_times,
    mg__law_times := PySem.W.mg_of X G a__law_times,
    F_law := funD_mk l_law c_law,
    kp_law := k_law,
    mg_law := PySem.W.mg_of X G a_law,
    no_enumerate := PySem.W.mg_none_of X G no_enumerate,
    no_len := PySem.W.mg_none_of X G no_len,
    no_list := PySem.W.mg_none_of X G no_list,
    no_max := PySem.W.mg_none_of X G no_max,
    no_min := PySem.W.mg_none_of X G no_min,
    no_range := PySem.W.mg_none_of X G no_range,
    no_set := PySem.W.mg_none_of X G no_set,
    no_sorted := PySem.W.mg_none_of X G no_sorted,
    no_sum := PySem.W.mg_none_of X G no_sum
  }⟩
def sp_law (K : PySem.W.Frag) : Sp := fun vs H Q _ => ∃ (l : Addr) (ns : List Int), vs = [.ref l] ∧ SqL K H l (ns.map V.int) ∧ ns.length ≤ 63 ∧ ∀ H', Q (.bl true) H'
section
variable {P : Program} {w : World} {K : PySem.W.Frag} {mg : Str → Option Value} {base : Heap} {a : Ad}
def isI : PyData → Bool
  | .int _ => true
  | _ => false
theorem r_ixC {H : Hp} {Q : VK} {v : V} {ds : List PyData} {i : Int} (hp : Dv H v (.list ds)) (hall : ds.all isI = true) (h0 : 0 ≤ i) (h1 : i < ds.length) (h : ∀ n, PyData.int n ∈ ds → Q (.int n) H) : rIxK K v (.int i) H Q := by
  obtain ⟨m, rfl⟩ := Int.eq_ofNat_of_zero_le h0
  have hi : m < ds.length := by omega
  have hm : ds[m] ∈ ds := List.getElem_mem hi
  have hb : isI ds[m] = true := List.all_eq_true.mp hall _ hm
  obtain ⟨n, hn⟩ : ∃ n, ds[m] = .int n := by
    cases e : ds[m] with
    | int n => exact ⟨n, rfl⟩
    | _ => rw [e] at hb; cases hb
  have e : atI ds (m : Int) = some (.int n) := atI_nat (by rw [List.getElem?_eq_getElem hi, hn])
  exact r_ixD (.inr hp) e (got_int (h n (hn ▸ hm)))
local macro_rules | `(tactic| walk_at "rd1") => `(tactic| first
  | ((with_reducible refine' r_ixC ?e1 ?e2 ?e3 ?e4 (fun n hn => ?q)); (case e1 => walk_at "dat"); (case e2 => exact rfl); (case e3 => omega); (case e4 => (simp only [List.length_cons, List.length_nil]; omega)); (case' q => simp only [List.mem_cons, List.not_mem_nil, or_false, PyData.int.injEq] at hn))
  | fail)
def sp_mixed : Sp := fun vs H Q _ => ∃ n, vs = [.int n] ∧ ∀ r, 0 ≤ r → r < 2147483647 → Q (.int r) H
theorem u_mixed {H : Hp} {Q : VK} {E : XK} {n : Int} (q : ∀ r, 0 ≤ r → r < 2147483647 → Q (.int r) H) : sp_mixed [.int n] H Q E := ⟨n, rfl, q⟩
theorem ok_mixed (T : Txt K mg a) : FnOk P w K mg base CX0 1 a.f__law_mixed a.fd__law_mixed ["_law_number"] sp_mixed := by
  refine T.F__law_mixed.ok sc__law_mixed (fun vs H Q E h => ?_) (fun cdv A outer s H vs Q E hr h => ?_)
  · obtain ⟨_, rfl, _⟩ := h; rfl
  · obtain ⟨n, rfl, q⟩ := h
    refine ⟨_, (pss_cut (ps_set (i := 0) sc__law_mixed.nd rfl (Or.inl rfl) (pe_op op_modP (pe_op op_mulB (pe_op op_add (pe_op op_modP (pv 0) pe_int) pe_int) pe_int) pe_int))
      (pss_one (ps_ret (pe_op op_modP (pe_op op_mulB (pv 0) (pe_op op_add (pe_op op_fdivB (pv 0) pe_int) pe_int)) pe_int)))), ?_⟩
    repeat' (walk_at "rd1")
    exact q _ (by assumption) (by assumption)
theorem cal_mixed (T : Txt K mg a) : Cal P w K mg base 1 a.f__law_mixed ["_law_number"] [] sp_mixed :=
  ⟨⟨_, _, ok_mixed T, T.F__law_mixed.binds fun _ _ _ _ _ _ => .all fun us hl => match us, hl with | [_], _ => rfl, .nil⟩⟩
def Ltr (s : Str) : Prop := ∀ c ∈ s.cps.toList, c < 1114112
theorem Ltr.sub {s t : Str} (h : Ltr t) (k : ∀ c ∈ s.cps.toList, c ∈ t.cps.toList) : Ltr s := fun c hc => h c (k c hc)
theorem Ltr.app {s t : Str} (h : Ltr s) (k : Ltr t) : Ltr (s ++ t) := by
  intro c hc
  have : c ∈ (s.cps ++ t.cps).toList := hc
  rw [Array.toList_append] at this
  rcases List.mem_append.mp this with z | z
  · exact h c z
  · exact k c z
theorem Ltr.one {c : Nat} {t : Str} (h : Ltr t) (k : c ∈ t.cps.toList) : Ltr ⟨#[c]⟩ := by
  intro x hx
  have : x = c := by simpa using hx
  subst this; exact h x k
theorem Ltr.abc : Ltr "abcdefghijklmnopqrstuvwxyz" := by
  have h : ((Str.ofString "abcdefghijklmnopqrstuvwxyz").cps.toList.all fun c => decide (c < 1114112)) = true := by decide +kernel
  intro c hc
  exact of_decide_eq_true (List.all_eq_true.mp h c hc)
theorem abc_len : (Str.ofString "abcdefghijklmnopqrstuvwxyz").length = 26 := by decide +kernel
theorem one_len (c : Nat) : (Str.mk #[c]).length = 1 := rfl
def NmS (s : Str) : Prop := s.length ≤ 200 ∧ Ltr s
abbrev abcS : Str := Str.ofString "abcdefghijklmnopqrstuvwxyz"
theorem abc_at : ∀ i : Fin 26, abcS.cps.toList[i.val]? = some (97 + i.val) := by decide +kernel
def restN (c : Int) : Str := sliceS (sliceS abcS (some (c / 156 % 20)) none) none (some (c / 3120 % 6))
def placeN (c : Int) : Int := c / 18720 % (((restN c).length : Nat) + 1)
def mulN (c : Int) : Int := [1, 3, 5, 7, 9, 11].getD (c / 26 % 6).toNat 0
def ltrN (c k : Int) : Nat := 97 + ((c + k * mulN c) % 26).toNat
def tailN (c k : Int) : Str := sliceS (sliceS abcS (some (k * 7 % 26)) none) none (some (k % 3 * (c / 112320 % 2)))
def nm5 (c k : Int) : Str := ((sliceS (restN c) none (some (placeN c)) ++ ⟨#[ltrN c k]⟩) ++ sliceS (restN c) (some (placeN c)) none) ++ tailN c k
theorem cps_app (x y : Str) : (x ++ y).cps.toList = x.cps.toList ++ y.cps.toList := by show (x.cps ++ y.cps).toList = _; simp
theorem mul_in (c : Int) : mulN c = 1 ∨ mulN c = 3 ∨ mulN c = 5 ∨ mulN c = 7 ∨ mulN c = 9 ∨ mulN c = 11 := by
  unfold mulN
  have h0 : 0 ≤ c / 26 % 6 := by omega
  have h1 : c / 26 % 6 < 6 := by omega
  generalize c / 26 % 6 = z at *
  have : z = 0 ∨ z = 1 ∨ z = 2 ∨ z = 3 ∨ z = 4 ∨ z = 5 := by omega
  rcases this with rfl | rfl | rfl | rfl | rfl | rfl <;> simp
theorem nm5_inj {c k k' : Int} (h0 : 0 ≤ k) (h1 : k < 26) (h2 : 0 ≤ k') (h3 : k' < 26) (h : nm5 c k = nm5 c k') : k = k' := by
  have e := congrArg (fun s : Str => s.cps.toList) h
  simp only [nm5, cps_app, List.append_assoc] at e
  have e2 := List.append_cancel_left e
  have e3 : ltrN c k = ltrN c k' := (List.cons.inj e2).1
  unfold ltrN at e3
  have e4 : (c + k * mulN c) % 26 = (c + k' * mulN c) % 26 := by omega
  rcases mul_in c with m | m | m | m | m | m <;> rw [m] at e4 <;> omega
theorem nm5_ok (c k : Int) : NmS (nm5 c k) := by
  have al : abcS.length = 26 := abc_len
  have l1 := slice_len abcS (some (c / 156 % 20)) none
  have l2 : (restN c).length ≤ _ := slice_len (sliceS abcS (some (c / 156 % 20)) none) none (some (c / 3120 % 6))
  have l3 := slice_len (restN c) none (some (placeN c))
  have l4 := slice_len (restN c) (some (placeN c)) none
  have l5 := slice_len abcS (some (k * 7 % 26)) none
  have l6 : (tailN c k).length ≤ _ := slice_len (sliceS abcS (some (k * 7 % 26)) none) none (some (k % 3 * (c / 112320 % 2)))
  have r : Ltr (restN c) := (Ltr.abc.sub slice_sub).sub slice_sub
  have hlt : ltrN c k < 1114112 := by
    unfold ltrN
    generalize c + k * mulN c = z
    omega
  refine ⟨?_, (((r.sub slice_sub).app ?_).app (r.sub slice_sub)).app ((Ltr.abc.sub slice_sub).sub slice_sub)⟩
  · simp only [nm5, Str.length_append, one_len]; omega
  · intro d hd
    have : d = ltrN c k := by simpa using hd
    omega
def sp_name5 : Sp := fun vs H Q _ => ∃ c k, vs = [.int c, .int k] ∧ 0 ≤ c ∧ c < 10 ^ 20 ∧ 0 ≤ k ∧ k < 100 ∧ ∀ H', Same H H' → Q (.str (nm5 c k)) H'
theorem u_name5 {H : Hp} {Q : VK} {E : XK} {c k : Int} (h : 0 ≤ c ∧ c < 10 ^ 20 ∧ 0 ≤ k ∧ k < 100) (q : ∀ H', Same H H' → Q (.str (nm5 c k)) H') : sp_name5 [.int c, .int k] H Q E := ⟨c, k, rfl, h.1, h.2.1, h.2.2.1, h.2.2.2, q⟩
theorem r_ixNs {H : Hp} {Q : VK} {v : V} {ls : List Int} {i : Int} (hp : Dv H v (.list (ls.map PyData.int))) (h0 : 0 ≤ i) (h1 : i < ls.length) (h : Q (.int (ls.getD i.toNat 0)) H) : rIxK K v (.int i) H Q := by
  obtain ⟨m, rfl⟩ := Int.eq_ofNat_of_zero_le h0
  have hi : m < ls.length := by omega
  refine r_ixD (d := .int (ls.getD m 0)) (.inr hp) (atI_nat (by rw [List.getElem?_map, List.getElem?_eq_getElem hi]; simp [List.getD_eq_getElem?_getD, hi])) (got_int h)
theorem r_ixAbc {H : Hp} {Q : VK} {i : Int} (h0 : 0 ≤ i) (h1 : i < 26) (h : Q (.str ⟨#[97 + i.toNat]⟩) H) : rIxK K (.str (Str.ofString "abcdefghijklmnopqrstuvwxyz")) (.int i) H Q :=
  r_ixLx (by rw [abc_len]; decide) h0 (by rw [abc_len]; omega) fun c hc => by
    have e := abc_at ⟨i.toNat, by omega⟩
    have e2 : some c = some (97 + i.toNat) := hc.symm.trans e
    rw [Option.some.inj e2]; exact h
local macro_rules | `(tactic| walk_at "rd1") => `(tactic| first
  | ((with_reducible refine' r_ixNs (ls := [1, 3, 5, 7, 9, 11]) ?e1 ?e2 ?e3 ?_); (case e1 => walk_at "dat"); (case e2 => omega); (case e3 => (simp only [List.length_cons, List.length_nil]; omega)))
  | ((with_reducible refine' r_slXl ?e1 (fun _ => ?_)); (case e1 => walk_at "len"))
  | ((with_reducible refine' r_ixAbc ?e1 ?e2 ?_); (case e1 => omega); (case e2 => omega))
  | fail)
set_option hygiene false in
local macro_rules | `(tactic| walk_at "len") => `(tactic| first
  | (simp only [Str.length_append, one_len, abc_len] at *; omega)
  | fail)
theorem ok_name5 (T : Txt K mg a) : FnOk P w K mg base CX0 1 a.f__law_name a.fd__law_name ["_law_cell", "_law_k"] sp_name5 := by
  refine T.F__law_name.ok sc__law_name (fun vs H Q E h => ?_) (fun cdv A outer s H vs Q E hr h => ?_)
  · obtain ⟨_, _, rfl, _⟩ := h; rfl
  · obtain ⟨c, k, rfl, c0, c1, k0, k1, q⟩ := h
    have al := abc_len
    refine ⟨_, (pss_cut (ps_set (i := 2) sc__law_name.nd rfl (Or.inl rfl) pe_str)
      (pss_cut (ps_set (i := 3) sc__law_name.nd rfl (Or.inl rfl) (pe_ix ix_K (pv 2) (pe_op op_modP (pe_op op_add (pv 0) (pe_op op_mulB (pv 1) (pe_ix ix_K (pe_lstD (pa_cons pe_int (pa_cons pe_int (pa_cons pe_int (pa_cons pe_int (pa_cons pe_int (pa_cons pe_int pa_nil))))))) (pe_op op_modP (pe_op op_fdivB (pv 0) pe_int) pe_int) (fun _ _ => rfl)))) pe_int) (fun _ _ => rfl)))
      (pss_cut (ps_set (i := 4) sc__law_name.nd rfl (Or.inl rfl) (pe_slice sl_strX (pe_slice sl_strX (pv 2) (po_some (pe_op op_modP (pe_op op_fdivB (pv 0) pe_int) pe_int)) po_none) po_none (po_some (pe_op op_modP (pe_op op_fdivB (pv 0) pe_int) pe_int))))
      (pss_cut (ps_set (i := 5) sc__law_name.nd rfl (Or.inl rfl) (pe_op op_modP (pe_op op_fdivB (pv 0) pe_int) (pe_op op_add (pe_callB call_lenK rfl T.no_len PySem.boot_len (pa_cons (pv 4) pa_nil)) pe_int)))
      (pss_cut (ps_set (i := 6) sc__law_name.nd rfl (Or.inl rfl) (pe_slice sl_strX (pe_slice sl_strX (pv 2) (po_some (pe_op op_modP (pe_op op_mulB (pv 1) pe_int) pe_int)) po_none) po_none (po_some (pe_op op_mulB (pe_op op_modP (pv 1) pe_int) (pe_op op_modP (pe_op op_fdivB (pv 0) pe_int) pe_int)))))
      (pss_one (ps_ret (pe_op op_addS (pe_op op_addS (pe_op op_addS (pe_slice sl_strX (pv 4) po_none (po_some (pv 5))) (pv 3)) (pe_slice sl_strX (pv 4) (po_some (pv 5)) po_none)) (pv 6))))))))), ?_⟩
    have hm : 0 ≤ [1, 3, 5, 7, 9, 11].getD (c / 26 % 6).toNat (0 : Int) ∧ [1, 3, 5, 7, 9, 11].getD (c / 26 % 6).toNat (0 : Int) ≤ 11 := by
      have := mul_in c
      unfold mulN at this
      omega
    repeat' (walk_at "rd1")
    exact q _ (by walk_at "same")
theorem cal_name5 (T : Txt K mg a) : Cal P w K mg base 1 a.f__law_name ["_law_cell", "_law_k"] [] sp_name5 :=
  ⟨⟨_, _, ok_name5 T, T.F__law_name.binds fun _ _ _ _ _ _ => .all fun us hl => match us, hl with | [_, _], _ => rfl, .nil⟩⟩
theorem law_binds (T : Txt K mg a) (s : Shared) (u : Value) : BindsTo s a.fd_law ⟨[u], []⟩ [("_law_script", u)] := by
  obtain ⟨oc, od, kV, doc, pm, an, cdv, ct, osl, e, lk, hcd⟩ := T.F_law.ex
  rw [e]
  exact .of_eq rfl
theorem ok_law_cell_at (T : Txt K mg a) : FnOk P w K mg base CX0 1 a.f__law_cell_at a.fd__law_cell_at ["_law_script", "_law_k"] (spCell K) := by
  refine T.F__law_cell_at.ok sc__law_cell_at (fun vs H Q E h => ?_) (fun cdv A outer s H vs Q E hr h => ?_)
  · obtain ⟨_, _, _, rfl, _⟩ := h; rfl
  · obtain ⟨l, ns, i, rfl, hl, h0, k⟩ := h
    refine ⟨_, (pss_cut (ps_if (pt_cmpR op_lt (pv 1) (pe_callB call_lenK rfl T.no_len PySem.boot_len (pa_cons (pv 0) pa_nil)) (nomark _))
        (pss_one (ps_ret (pe_ix ix_K (pv 0) (pv 1) (fun _ _ => rfl))))
        pss_nil)
      (pss_one (ps_ret pe_int))), ?_⟩
    repeat' (walk_at "rd1")
    · exact r_ixL hl (cell_at h0 (by assumption)) k
    · rw [cell_no h0 (by assumption)] at k; exact k
theorem cal_law_cell_at (T : Txt K mg a) : Cal P w K mg base 1 a.f__law_cell_at ["_law_script", "_law_k"] [] (spCell K) :=
  ⟨⟨_, _, ok_law_cell_at T, T.F__law_cell_at.binds fun _ _ _ _ _ _ => .all fun us hl => match us, hl with | [_, _], _ => rfl, .nil⟩⟩
def sp_cells (K : PySem.W.Frag) : Sp := fun vs H Q _ => ∃ (l : Addr) (ns : List Int) (m : Int), vs = [.ref l, .int m] ∧ SqL K H l (ns.map V.int) ∧ 0 ≤ m ∧ m ≤ 200 ∧ ∀ p H' (ms : List Int), Same H H' → H p = none → (ms.length : Int) = m → LAt H' p (ms.map PyData.int) → Q (.ref p) H'
theorem u_cells {H : Hp} {Q : VK} {E : XK} {l : Addr} {ns : List Int} {m : Int} (h : SqL K H l (ns.map V.int)) (h0 : 0 ≤ m) (h1 : m ≤ 200) (q : ∀ p H' (ms : List Int), Same H H' → H p = none → (ms.length : Int) = m → LAt H' p (ms.map PyData.int) → Q (.ref p) H') : sp_cells K [.ref l, .int m] H Q E := ⟨l, ns, m, rfl, h, h0, h1, q⟩
local macro_rules | `(tactic| walk_at "use") => `(tactic| first
  | with_reducible refine u_mixed (fun _ _ _ => ?_)
  | ((with_reducible refine' u_cell ?e1 ?e2 ?_); (case e1 => walk_at "sql"); (case e2 => omega))
  | ((with_reducible refine' u_cells ?e1 ?e2 ?e3 (fun _ _ _ _ _ _ _ => ?_)); (case e1 => walk_at "sql"); (case e2 => omega); (case e3 => omega))
  | ((with_reducible refine' u_name5 ?e1 (fun _ _ => ?_)); (case e1 => omega))
  | fail)
theorem ok_cells (T : Txt K mg a) : FnOk P w K mg base CX0 2 a.f__law_cells a.fd__law_cells ["_law_script", "_law_many"] (sp_cells K) := by
  have c__law_cell_at := cal_law_cell_at (P := P) (w := w) (base := base) T
  have c__law_mixed := cal_mixed (P := P) (w := w) (base := base) T
  refine T.F__law_cells.ok sc__law_cells (fun vs H Q E h => ?_) (fun cdv A outer s H vs Q E hr h => ?_)
  · obtain ⟨_, _, _, rfl, _⟩ := h; rfl
  · obtain ⟨l, ns, m, rfl, hl, m0, m1, q⟩ := h
    refine ⟨_, (pss_cut (ps_set (i := 2) sc__law_cells.nd rfl (Or.inl rfl) (pe_slice sl_list (pv 0) (po_some pe_int) (po_some (pe_op op_add pe_int (pv 1)))))
      (pss_cut (ps_set (i := 3) sc__law_cells.nd rfl (Or.inl rfl) (pn_call c__law_cell_at (hr.mono (by decide)) rfl T.mg__law_cell_at T.kp__law_cell_at (pa_cons (pv 0) (pa_cons pe_int pa_nil))))
      (pss_cut (ps_while PassesOwn.never (pt_cmpR op_lt (pe_callB call_lenK rfl T.no_len PySem.boot_len (pa_cons (pv 2) pa_nil)) (pv 1) (nomark _))
        (pss_cut (ps_set (i := 3) sc__law_cells.nd rfl (Or.inl rfl) (pn_call c__law_mixed (hr.mono (by decide)) rfl T.mg__law_mixed T.kp__law_mixed (pa_cons (pe_op op_add (pv 3) (pe_callB call_lenK rfl T.no_len PySem.boot_len (pa_cons (pv 2) pa_nil))) pa_nil)))
        (pss_one (ps_expr (pe_bm PySem.F.plainAttrs_list PySem.F.slot_list_append PySem.F.type_list_append mt_append (pv 2) (pa_cons (pv 3) pa_nil))))))
      (pss_one (ps_ret (pv 2)))))), ?_⟩
    repeat' (walk_at "rd1")
    obtain ⟨M, rfl⟩ := Int.eq_ofNat_of_zero_le m0
    refine r_cutN 4 (4 + M) hl (fun p H1 sm1 hn1 hp => ?_)
    have hll : ((ns.drop 4).take (4 + M - 4)).length ≤ M := by rw [List.length_take]; omega
    generalize (ns.drop 4).take (4 + M - 4) = ms0 at *
    repeat' (walk_at "rd1")
    refine r_while (fun r σ' H' => ∃ (num : Int) (ms : List Int), σ' = [some (.ref l), some (.int M), some (.ref p), some (.int num)] ∧ Mv [p] H1 H' ∧ LAt H' p (ms.map PyData.int) ∧ ms.length ≤ M ∧ r = M - ms.length) ⟨_, _, ms0, rfl, Mv.refl, hp, hll, rfl⟩ ?_
    rintro r σ' H' ⟨num, ms, rfl, mv, hp', hle, rfl⟩
    repeat' (walk_at "rd1")
    · rename_i hb x x0 x1 H3 mv3 hp3
      refine ⟨M - (ms.length + 1), by omega, x, ms ++ [x], rfl, by walk_at "mv", by rw [List.map_append]; exact hp3, by rw [List.length_append]; simp only [List.length_cons, List.length_nil]; omega, by rw [List.length_append]; rfl⟩
    · exact q p H' ms (by walk_at "same") hn1 (by omega) hp'
theorem cal_cells (T : Txt K mg a) : Cal P w K mg base 2 a.f__law_cells ["_law_script", "_law_many"] [] (sp_cells K) :=
  ⟨⟨_, _, ok_cells T, T.F__law_cells.binds fun _ _ _ _ _ _ => .all fun us hl => match us, hl with | [_, _], _ => rfl, .nil⟩⟩
abbrev C4 := Str × Int × Int × Int
def c4D (c : C4) : PyData := .tuple [.str c.1, .int c.2.1, .int c.2.2.1, .int c.2.2.2]
structure C4Ok (cs : List C4) : Prop where
  nm : ∀ c ∈ cs, NmS c.1
  wd : ∀ c ∈ cs, c.2.1 ≤ c.2.2.1
structure C5Ok (cs : List C4) : Prop where
  ok : C4Ok cs
  w1 : ∀ c ∈ cs, 1 ≤ c.2.2.2 ∧ c.2.2.2 ≤ 10 ^ 12
  nd : (cs.map (·.1)).Nodup
theorem names_nd (c : Int) : ∀ m : Nat, m ≤ 26 → ((List.range m).map fun i => nm5 c (i : Nat)).Nodup := fun m hm => by
  rw [List.Nodup, List.pairwise_map]
  refine List.Pairwise.imp_of_mem (fun ha hb hab e => hab ?_) List.nodup_range
  have h1 := List.mem_range.mp ha
  have h2 := List.mem_range.mp hb
  have := nm5_inj (by omega) (by omega) (by omega) (by omega) e
  omega
def sp_claims4 (K : PySem.W.Frag) : Sp := fun vs H Q _ => ∃ (l : Addr) (ns : List Int) (m : Int), vs = [.ref l, .int m] ∧ SqL K H l (ns.map V.int) ∧ 0 ≤ m ∧ m ≤ 26 ∧ ∀ p H' (cs : List C4), Same H H' → H p = none → (cs.length : Int) = m → C5Ok cs → LAt H' p (cs.map c4D) → Q (.ref p) H'
theorem u_claims4 {H : Hp} {Q : VK} {E : XK} {l : Addr} {ns : List Int} {m : Int} (h : SqL K H l (ns.map V.int)) (h0 : 0 ≤ m) (h1 : m ≤ 26) (q : ∀ p H' (cs : List C4), Same H H' → H p = none → (cs.length : Int) = m → C5Ok cs → LAt H' p (cs.map c4D) → Q (.ref p) H') : sp_claims4 K [.ref l, .int m] H Q E := ⟨l, ns, m, rfl, h, h0, h1, q⟩
set_option maxHeartbeats 0 in
theorem ok_claims4 (T : Txt K mg a) : FnOk P w K mg base CX0 3 a.f__law_claims a.fd__law_claims ["_law_script", "_law_many"] (sp_claims4 K) := by
  have c__law_cell_at := cal_law_cell_at (P := P) (w := w) (base := base) T
  have c__law_mixed := cal_mixed (P := P) (w := w) (base := base) T
  have c__law_cells := cal_cells (P := P) (w := w) (base := base) T
  have c__law_name := cal_name5 (P := P) (w := w) (base := base) T
  refine T.F__law_claims.ok sc__law_claims (fun vs H Q E h => ?_) (fun cdv A outer s H vs Q E hr h => ?_)
  · obtain ⟨_, _, _, rfl, _⟩ := h; rfl
  · obtain ⟨l, ns, m, rfl, hl, m0, m1, q⟩ := h
    refine ⟨_, (pss_cut (ps_set (i := 2) sc__law_claims.nd rfl (Or.inl rfl) (pn_call c__law_mixed (hr.mono (by decide)) rfl T.mg__law_mixed T.kp__law_mixed (pa_cons (pn_call c__law_cell_at (hr.mono (by decide)) rfl T.mg__law_cell_at T.kp__law_cell_at (pa_cons (pv 0) (pa_cons pe_int pa_nil))) pa_nil)))
      (pss_cut (ps_set (i := 3) sc__law_claims.nd rfl (Or.inl rfl) (pn_call c__law_cells (hr.mono (by decide)) rfl T.mg__law_cells T.kp__law_cells (pa_cons (pv 0) (pa_cons (pe_op op_mulB pe_int (pv 1)) pa_nil))))
      (pss_cut (ps_set (i := 4) sc__law_claims.nd rfl (Or.inl rfl) (pe_op op_modP (pv 2) pe_int))
      (pss_cut (ps_set (i := 5) sc__law_claims.nd rfl (Or.inl rfl) (pe_lstD pa_nil))
      (pss_cut (ps_for PassesOwn.never rfl (pi_range1 rfl T.no_range (pa_cons (pv 1) pa_nil)) (pg_name (i := 6) sc__law_claims.nd rfl (Or.inl rfl))
        (pss_cut (ps_set (i := 7) sc__law_claims.nd rfl (Or.inl rfl) (pe_ix ix_K (pv 3) (pe_op op_mulB pe_int (pv 6)) (fun _ _ => rfl)))
        (pss_cut (ps_set (i := 8) sc__law_claims.nd rfl (Or.inl rfl) (pe_ix ix_K (pv 3) (pe_op op_add (pe_op op_mulB pe_int (pv 6)) pe_int) (fun _ _ => rfl)))
        (pss_cut (ps_set (i := 9) sc__law_claims.nd rfl (Or.inl rfl) (pe_op op_add (pe_ix ix_K (pe_lstD (pa_cons pe_int (pa_cons pe_int (pa_cons (pe_op op_pow pe_int pe_int) (pa_cons (pe_op op_sub pe_int pe_int) pa_nil))))) (pe_op op_modP (pe_op op_fdivB (pv 2) pe_int) pe_int) (fun _ _ => rfl)) (pe_op op_modP (pv 7) (pe_ix ix_K (pe_lstD (pa_cons pe_int (pa_cons pe_int (pa_cons (pe_op op_pow pe_int pe_int) (pa_cons (pe_op op_mulB pe_int (pv 1)) pa_nil))))) (pv 4) (fun _ _ => rfl)))))
        (pss_cut (ps_set (i := 10) sc__law_claims.nd rfl (Or.inl rfl) (pe_op op_add (pv 9) (pe_ix ix_K (pe_lstD (pa_cons (pe_op op_modP (pe_op op_fdivB (pv 7) pe_int) pe_int) (pa_cons (pe_op op_modP (pe_op op_fdivB (pv 7) pe_int) pe_int) (pa_cons (pe_op op_modP (pe_op op_fdivB (pv 8) pe_int) (pe_op op_pow pe_int pe_int)) (pa_cons (pe_op op_modP (pe_op op_fdivB (pv 7) pe_int) pe_int) pa_nil))))) (pv 4) (fun _ _ => rfl))))
        (pss_cut (ps_set (i := 11) sc__law_claims.nd rfl (Or.inl rfl) (pe_op op_add pe_int (pe_op op_modP (pv 8) (pe_ix ix_K (pe_lstD (pa_cons pe_int (pa_cons pe_int (pa_cons (pe_op op_sub (pe_op op_pow pe_int pe_int) pe_int) pa_nil)))) (pe_op op_modP (pe_op op_fdivB (pv 2) pe_int) pe_int) (fun _ _ => rfl)))))
        (pss_one (ps_expr (pe_bm PySem.F.plainAttrs_list PySem.F.slot_list_append PySem.F.type_list_append mt_append (pv 5) (pa_cons (pe_tupD (pa_cons (pn_call c__law_name (hr.mono (by decide)) rfl T.mg__law_name T.kp__law_name (pa_cons (pe_op op_fdivB (pv 2) pe_int) (pa_cons (pv 6) pa_nil))) (pa_cons (pv 9) (pa_cons (pv 10) (pa_cons (pv 11) pa_nil))))) pa_nil))))))))))
      (pss_one (ps_ret (pv 5)))))))), ?_⟩
    obtain ⟨M, rfl⟩ := Int.eq_ofNat_of_zero_le m0
    repeat' (walk_at "rd1")
    rename_i sh sh0 sh1 pc H1 ms sm1 hn1 hml hpc w0 w1 pf H2 sm2 hn2 hpf
    refine for_range (fun j σ' H' => ∃ z6 z7 z8 z9 z10 z11 cs, σ' = [some (.ref l), some (.int M), some (.int sh), some (.ref pc), some (.int (sh % 4)), some (.ref pf), z6, z7, z8, z9, z10, z11] ∧ Mv [pf] H2 H' ∧ LAt H' pf (cs.map c4D) ∧ cs.length = j ∧ C4Ok cs ∧ (∀ c ∈ cs, 1 ≤ c.2.2.2 ∧ c.2.2.2 ≤ 10 ^ 12) ∧ cs.map (·.1) = (List.range j).map fun i => nm5 (sh / 48) (i : Nat)) ⟨_, _, _, _, _, _, [], rfl, Mv.refl, hpf, rfl, ⟨fun c h => by simp at h, fun c h => by simp at h⟩, fun c h => by simp at h, rfl⟩ ?_ ?_
    · rintro j σ' H' hj ⟨z6, z7, z8, z9, z10, z11, cs, rfl, mv, hp', hcl, hok, hws, hnm⟩
      have hj' : j < M := by simpa using hj
      have fin : ∀ (c : C4) H3 (σ2 : St) (z6 z7 z8 z9 z10 z11 : Option V), c.1 = nm5 (sh / 48) (0 + (j : Nat)) → c.2.1 ≤ c.2.2.1 → (1 ≤ c.2.2.2 ∧ c.2.2.2 ≤ 10 ^ 12) → Mv [pf] H2 H3 → LAt H3 pf (cs.map c4D ++ [c4D c]) → σ2 = [some (.ref l), some (.int M), some (.int sh), some (.ref pc), some (.int (sh % 4)), some (.ref pf), z6, z7, z8, z9, z10, z11] → ∃ z6 z7 z8 z9 z10 z11 cs, σ2 = [some (.ref l), some (.int M), some (.int sh), some (.ref pc), some (.int (sh % 4)), some (.ref pf), z6, z7, z8, z9, z10, z11] ∧ Mv [pf] H2 H3 ∧ LAt H3 pf (cs.map c4D) ∧ cs.length = j + 1 ∧ C4Ok cs ∧ (∀ c ∈ cs, 1 ≤ c.2.2.2 ∧ c.2.2.2 ≤ 10 ^ 12) ∧ cs.map (·.1) = (List.range (j + 1)).map fun i => nm5 (sh / 48) (i : Nat) := by
        intro c H3 σ2 z6 z7 z8 z9 z10 z11 hn hw hw1 m l2 e
        refine ⟨_, _, _, _, _, _, cs ++ [c], e, m, by rw [List.map_append]; exact l2, by simp [hcl], ⟨fun d hd => ?_, fun d hd => ?_⟩, fun d hd => ?_, ?_⟩
        · rcases List.mem_append.mp hd with hd | hd
          · exact hok.nm d hd
          · have : d = c := by simpa using hd
            subst this; rw [hn]; exact nm5_ok _ _
        · rcases List.mem_append.mp hd with hd | hd
          · exact hok.wd d hd
          · have : d = c := by simpa using hd
            subst this; exact hw
        · rcases List.mem_append.mp hd with hd | hd
          · exact hws d hd
          · have : d = c := by simpa using hd
            subst this; exact hw1
        · rw [List.map_append, hnm, List.range_succ, List.map_append, List.map_cons, List.map_nil, List.map_cons, List.map_nil, hn]
          rw [Int.zero_add]
      repeat' (walk_at "rd1")
      all_goals (refine' fin (_, _, _, _) _ _ _ _ _ _ _ _ ?e1 ?e2 ?e6 ?e3 ?e4 ?e5; (case e4 => assumption); (case e5 => exact rfl); (case e1 => exact rfl); (case e6 => (dsimp only; omega)); (case e3 => walk_at "mv"); (case e2 => (dsimp only; omega)))
    · rintro σ' H' ⟨z6, z7, z8, z9, z10, z11, cs, rfl, mv, hp', hcl, hok, hws, hnm⟩
      repeat' (walk_at "rd1")
      exact q pf H' cs (by walk_at "same") (by walk_at "none") (by omega) ⟨hok, hws, by rw [hnm]; exact names_nd _ _ (by omega)⟩ hp'
theorem cal_claims4 (T : Txt K mg a) : Cal P w K mg base 3 a.f__law_claims ["_law_script", "_law_many"] [] (sp_claims4 K) :=
  ⟨⟨_, _, ok_claims4 T, T.F__law_claims.binds fun _ _ _ _ _ _ => .all fun us hl => match us, hl with | [_, _], _ => rfl, .nil⟩⟩
theorem nm_lay {s : Str} (h : NmS s) : PyData.canLay0 (.str s) = true := by
  show s.cps.all (· < 0x110000) = true
  rw [Array.all_eq_true']
  intro c hc
  exact decide_eq_true (h.2 c (by simpa using hc))
theorem c4_lay : ∀ {cs : List C4}, (∀ c ∈ cs, NmS c.1) → PyData.canLayAll0 (cs.map c4D) = true
  | [], _ => rfl
  | c :: r, h => by
    have h1 := nm_lay (h c List.mem_cons_self)
    simp only [List.map_cons, PyData.canLayAll0, c4D, PyData.canLay0, Bool.and_true, Bool.true_and] at h1 ⊢
    rw [h1, Bool.true_and]
    exact c4_lay fun y hy => h y (List.mem_cons_of_mem _ hy)
theorem c4_dep : ∀ cs : List C4, PyData.depthAll (cs.map c4D) ≤ 3
  | [] => by simp [PyData.depthAll]
  | _ :: r => by have := c4_dep r; simp only [List.map_cons, PyData.depthAll, c4D, PyData.depth]; omega
theorem r_eqNil4 {H : Hp} {Q : VK} {f : Bool → Bool} {x y : V} {cs : List C4} (h1 : Dv H x (.list (cs.map c4D))) (h2 : Dv H y (.list [])) (hs : C4Ok cs) (h : Q (.bl (f cs.isEmpty)) H) : rEqA K f x y H Q := by
  have e : PyData.eqv (.list (cs.map c4D)) (.list []) = cs.isEmpty := by cases cs <;> rfl
  refine r_eqD h1 h2 (by rw [PyData.canLay0]; exact c4_lay hs.nm) rfl ?_ (by rw [e]; exact h)
  have := c4_dep cs
  rw [PyData.depth]
  omega
def at4 (cs : List C4) (i : Int) : C4 := cs.getD i.toNat default
theorem r_ix4 {H : Hp} {Q : VK} {v : V} {cs : List C4} {i : Int} (hp : Dv H v (.list (cs.map c4D))) (hs : C4Ok cs) (h0 : 0 ≤ i) (h1 : i < cs.length) (h : ∀ x, at4 cs i ∈ cs → (at4 cs i).2.1 ≤ (at4 cs i).2.2.1 → Dv H x (.tuple [.str (at4 cs i).1, .int (at4 cs i).2.1, .int (at4 cs i).2.2.1, .int (at4 cs i).2.2.2]) → Q x H) : rIxK K v (.int i) H Q := by
  obtain ⟨m, rfl⟩ := Int.eq_ofNat_of_zero_le h0
  have hi : m < cs.length := by omega
  have ea : at4 cs (m : Int) = cs[m] := by simp [at4, hi]
  rw [ea] at h
  have e : atI (cs.map c4D) (m : Int) = some (c4D cs[m]) := atI_nat (by rw [List.getElem?_map, List.getElem?_eq_getElem hi]; rfl)
  exact r_ixD (.inr hp) e (got_tup fun x hx => h x (List.getElem_mem hi) (hs.wd _ (List.getElem_mem hi)) hx)
local macro_rules | `(tactic| walk_at "rd1") => `(tactic| first
  | ((with_reducible refine' r_ix4 ?e1 ?e2 ?e3 ?e4 (fun _ _ _ _ => ?_)); (case e1 => walk_at "dat"); (case e2 => assumption); (case e3 => omega); (case e4 => omega))
  | ((with_reducible refine' r_eqNil4 ?e1 ?e2 ?e3 ?_); (case e1 => walk_at "dat"); (case e2 => walk_at "dat"); (case e3 => assumption))
  | fail)
def sp_times : Sp := fun vs H Q _ => ∃ (v : V) (cs : List C4) (c m : Int), vs = [v, .int c, .int m] ∧ Dv H v (.list (cs.map c4D)) ∧ C4Ok cs ∧ cs.length ≤ 100 ∧ 0 ≤ m ∧ m ≤ 20 ∧ ∀ p H' (ts : List Int), Same H H' → H p = none → (ts.length : Int) = m → LAt H' p (ts.map PyData.int) → Q (.ref p) H'
theorem u_times {H : Hp} {Q : VK} {E : XK} {v : V} {cs : List C4} {c m : Int} (h : Dv H v (.list (cs.map c4D))) (hs : C4Ok cs) (hl : cs.length ≤ 100) (h0 : 0 ≤ m) (h1 : m ≤ 20) (q : ∀ p H' (ts : List Int), Same H H' → H p = none → (ts.length : Int) = m → LAt H' p (ts.map PyData.int) → Q (.ref p) H') : sp_times [v, .int c, .int m] H Q E := ⟨v, cs, c, m, rfl, h, hs, hl, h0, h1, q⟩
set_option maxHeartbeats 0 in
theorem ok_times (T : Txt K mg a) : FnOk P w K mg base CX0 2 a.f__law_times a.fd__law_times ["_law_claims_here", "_law_cell", "_law_many"] sp_times := by
  have c__law_mixed := cal_mixed (P := P) (w := w) (base := base) T
  refine T.F__law_times.ok sc__law_times (fun vs H Q E h => ?_) (fun cdv A outer s H vs Q E hr h => ?_)
  · obtain ⟨_, _, _, _, rfl, _⟩ := h; rfl
  · obtain ⟨v, cs, c, m, rfl, hv, hok, hcn, m0, m1, q⟩ := h
    refine ⟨_, (pss_cut (ps_set (i := 3) sc__law_times.nd rfl (Or.inl rfl) (pe_lstD pa_nil))
      (pss_cut (ps_for PassesOwn.never rfl (pi_range1 rfl T.no_range (pa_cons (pv 2) pa_nil)) (pg_name (i := 4) sc__law_times.nd rfl (Or.inl rfl))
        (pss_cut (ps_set (i := 1) sc__law_times.nd rfl (Or.inl rfl) (pn_call c__law_mixed (hr.mono (by decide)) rfl T.mg__law_mixed T.kp__law_mixed (pa_cons (pe_op op_add (pv 1) (pv 4)) pa_nil)))
        (pss_cut (ps_set (i := 5) sc__law_times.nd rfl (Or.inl rfl) (pe_op op_modP (pv 1) pe_int))
        (pss_cut (ps_set (i := 6) sc__law_times.nd rfl (Or.inl rfl) (pv 5))
        (pss_cut (ps_if (pt_cmpR (op_neA hr.hu8) (pv 0) (pe_lstD pa_nil) (nomark _))
          (pss_cut (ps_set (i := 5) sc__law_times.nd rfl (Or.inl rfl) (pe_ix ix_K (pe_ix ix_K (pv 0) (pe_op op_modP (pv 1) (pe_callB call_lenK rfl T.no_len PySem.boot_len (pa_cons (pv 0) pa_nil))) (fun _ _ => rfl)) pe_int (fun _ _ => rfl)))
          (pss_one (ps_set (i := 6) sc__law_times.nd rfl (Or.inl rfl) (pe_ix ix_K (pe_ix ix_K (pv 0) (pe_op op_modP (pv 1) (pe_callB call_lenK rfl T.no_len PySem.boot_len (pa_cons (pv 0) pa_nil))) (fun _ _ => rfl)) pe_int (fun _ _ => rfl)))))
          pss_nil)
        (pss_cut (ps_set (i := 7) sc__law_times.nd rfl (Or.inl rfl) (pe_op op_add (pv 5) (pe_op op_modP (pe_op op_mulB (pv 1) (pv 1)) (pe_op op_add (pe_op op_sub (pv 6) (pv 5)) pe_int))))
        (pss_one (ps_expr (pe_bm PySem.F.plainAttrs_list PySem.F.slot_list_append PySem.F.type_list_append mt_append (pv 3) (pa_cons (pe_ix ix_K (pe_lstD (pa_cons (pe_op op_sub (pv 5) pe_int) (pa_cons (pv 5) (pa_cons (pv 7) (pa_cons (pv 6) (pa_cons (pe_op op_add (pv 6) pe_int) (pa_cons (pv 7) pa_nil))))))) (pe_op op_modP (pe_op op_fdivB (pv 1) pe_int) pe_int) (fun _ _ => rfl)) pa_nil))))))))))
      (pss_one (ps_ret (pv 3))))), ?_⟩
    obtain ⟨M, rfl⟩ := Int.eq_ofNat_of_zero_le m0
    repeat' (walk_at "rd1")
    rename_i pf H2 sm2 hn2 hpf
    refine for_range (fun j σ' H' => ∃ (cc : Int) (z4 z5 z6 z7 : Option V) (ts : List Int), σ' = [some v, some (.int cc), some (.int M), some (.ref pf), z4, z5, z6, z7] ∧ Same H H' ∧ LAt H' pf (List.map PyData.int ts) ∧ ts.length = j) ⟨_, _, _, _, _, [], rfl, sm2, hpf, rfl⟩ ?_ ?_
    · rintro j σ' H' hj ⟨cc, z4, z5, z6, z7, ts, rfl, sm', hp', hcl⟩
      have hj' : j < M := by simpa using hj
      have hv' : Dv H' v (.list (cs.map c4D)) := hv.keeps sm'
      have fin : ∀ (n : Int) H3 (σ2 : St) (cc : Int) (z4 z5 z6 z7 : Option V), Same H H3 → LAt H3 pf (ts.map PyData.int ++ [.int n]) → σ2 = [some v, some (.int cc), some (.int M), some (.ref pf), z4, z5, z6, z7] → ∃ (cc : Int) (z4 z5 z6 z7 : Option V) (ts : List Int), σ2 = [some v, some (.int cc), some (.int M), some (.ref pf), z4, z5, z6, z7] ∧ Same H H3 ∧ LAt H3 pf (List.map PyData.int ts) ∧ ts.length = j + 1 := by
        intro n H3 σ2 cc z4 z5 z6 z7 s3 l3 e
        exact ⟨_, _, _, _, _, ts ++ [n], e, s3, by rw [List.map_append]; exact l3, by simp [hcl]⟩
      have key : 0 < cs.length ∨ cs = [] := by
        cases cs with
        | nil => exact .inr rfl
        | cons _ _ => exact .inl (Nat.succ_pos _)
      rcases key with hpos | rfl
      · repeat' (walk_at "rd1")
        all_goals (refine' fin _ _ _ _ _ _ _ _ ?e1 ?e2 ?e3; (case e2 => assumption); (case e3 => exact rfl); (case e1 => walk_at "same"))
      · repeat' (walk_at "rd1")
        · rename_i hb; cases hb
        all_goals (refine' fin _ _ _ _ _ _ _ _ ?e1 ?e2 ?e3; (case e2 => assumption); (case e3 => exact rfl); (case e1 => walk_at "same"))
    · rintro σ' H' ⟨cc, z4, z5, z6, z7, ts, rfl, sm', hp', hcl⟩
      repeat' (walk_at "rd1")
      exact q pf H' ts sm' hn2 (by omega) hp'
theorem cal_times (T : Txt K mg a) : Cal P w K mg base 2 a.f__law_times ["_law_claims_here", "_law_cell", "_law_many"] [] sp_times :=
  ⟨⟨_, _, ok_times T, T.F__law_times.binds fun _ _ _ _ _ _ => .all fun us hl => match us, hl with | [_, _, _], _ => rfl, .nil⟩⟩
def firstIn (ts : List Int) (f l : Int) : Option Int := ts.find? fun t => decide (f ≤ t) && decide (t ≤ l)
def sp_within : Sp := fun vs H Q _ => ∃ (v : V) (ts : List Int) (f l : Int), vs = [v, .int f, .int l] ∧ Dv H v (.list (ts.map PyData.int)) ∧ Q (ow (firstIn ts f l)) H
theorem u_within {H : Hp} {Q : VK} {E : XK} {v : V} {ts : List Int} {f l : Int} (h : Dv H v (.list (ts.map PyData.int))) (q : Q (ow (firstIn ts f l)) H) : sp_within [v, .int f, .int l] H Q E := ⟨v, ts, f, l, rfl, h, q⟩
theorem ok_within (T : Txt K mg a) : FnOk P w K mg base CX0 1 a.f_first_within a.fd_first_within ["wakings", "first", "last"] sp_within := by
  refine T.F_first_within.ok sc_first_within (fun vs H Q E h => ?_) (fun cdv A outer s H vs Q E hr h => ?_)
  · obtain ⟨_, _, _, _, rfl, _⟩ := h; rfl
  · obtain ⟨v, ts, f, l, rfl, hv, q⟩ := h
    refine ⟨_, (pss_cut (ps_for PassesOwn.never rfl (pi_list (pv 0)) (pg_name (i := 3) sc_first_within.nd rfl (Or.inl rfl))
        (pss_one (ps_if (pt_chain op_le op_le (pv 1) (pv 3) (pv 2))
          (pss_one (ps_ret (pv 3)))
          pss_nil)))
      (pss_one (ps_ret pe_non))), ?_⟩
    repeat' (walk_at "rd1")
    refine forD (cs := ts) (gd := PyData.int) hv (fun j σ' H' => ∃ z3, σ' = [some v, some (.int f), some (.int l), z3] ∧ H' = H ∧ firstIn (ts.drop j) f l = firstIn ts f l) ⟨_, rfl, rfl, by simp⟩ (fun i σ' H' _ ⟨_, _, e, _⟩ a' xs _ hx => by rw [e]; exact hx) ?_ ?_
    · rintro i c x σ' H' hc ⟨z3, rfl, rfl, he⟩ _ hd
      obtain rfl := (hd (Same.refl _)).int_inv
      have hi : i < ts.length := (List.getElem?_eq_some_iff.mp hc).1
      have hdr : ts.drop i = c :: ts.drop (i + 1) := by
        rw [List.drop_eq_getElem_cons hi]
        rw [List.getElem?_eq_getElem hi] at hc
        rw [Option.some.inj hc]
      rw [hdr] at he
      unfold firstIn at he
      rw [List.find?_cons] at he
      repeat' (walk_at "rd1")
      · rename_i h1 h2
        rw [show (decide (f ≤ c) && decide (c ≤ l)) = true by simp [h1, h2]] at he
        have : firstIn ts f l = some c := he.symm
        rw [this] at q
        exact q
      · rename_i h1 h2
        rw [show (decide (f ≤ c) && decide (c ≤ l)) = false by simp [h2]] at he
        exact ⟨_, rfl, rfl, he⟩
      · rename_i h1
        rw [show (decide (f ≤ c) && decide (c ≤ l)) = false by simp [h1]] at he
        exact ⟨_, rfl, rfl, he⟩
    · rintro σ' H' ⟨z3, rfl, rfl, he⟩
      rw [List.drop_length] at he
      repeat' (walk_at "rd1")
      rw [← he] at q
      exact q
theorem cal_within (T : Txt K mg a) : Cal P w K mg base 1 a.f_first_within ["wakings", "first", "last"] [] sp_within :=
  ⟨⟨_, _, ok_within T, T.F_first_within.binds fun _ _ _ _ _ _ => .all fun us hl => match us, hl with | [_, _, _], _ => rfl, .nil⟩⟩
local macro_rules | `(tactic| walk_at "use") => `(tactic| first
  | ((with_reducible refine' u_within ?e1 ?_); (case e1 => walk_at "dat"))
  | fail)
def hit (ts : List Int) (c : C4) : Bool := (firstIn ts c.2.1 c.2.2.1).isSome
theorem ow_none (o : Option Int) : decide (ow o = .non) = !o.isSome := by cases o <;> rfl
def sp_isr : Sp := fun vs H Q _ => ∃ (v u : V) (ts : List Int) (c : C4), vs = [v, u] ∧ Dv H v (.list (ts.map PyData.int)) ∧ Dv H u (c4D c) ∧ Q (.bl (hit ts c)) H
theorem u_isr {H : Hp} {Q : VK} {E : XK} {v u : V} {ts : List Int} {c : C4} (h : Dv H v (.list (ts.map PyData.int))) (h2 : Dv H u (c4D c)) (q : Q (.bl (hit ts c)) H) : sp_isr [v, u] H Q E := ⟨v, u, ts, c, rfl, h, h2, q⟩
theorem ok_isr (T : Txt K mg a) : FnOk P w K mg base CX0 2 a.f_is_rung a.fd_is_rung ["wakings", "claim"] sp_isr := by
  have c_first_within := cal_within (P := P) (w := w) (base := base) T
  refine T.F_is_rung.ok sc_is_rung (fun vs H Q E h => ?_) (fun cdv A outer s H vs Q E hr h => ?_)
  · obtain ⟨_, _, _, _, rfl, _⟩ := h; rfl
  · obtain ⟨v, u, ts, c, rfl, hv, hu, q⟩ := h
    unfold c4D at hu
    refine ⟨_, (pss_one (ps_ret (pe_cmpR op_notN (pn_call c_first_within (hr.mono (by decide)) rfl T.mg_first_within T.kp_first_within (pa_cons (pv 0) (pa_cons (pe_ix ix_K (pv 1) pe_int (fun _ _ => rfl)) (pa_cons (pe_ix ix_K (pv 1) pe_int (fun _ _ => rfl)) pa_nil)))) pe_non (nomark _)))), ?_⟩
    repeat' (walk_at "rd1")
    show Q (.bl (!decide (ow (firstIn ts c.2.1 c.2.2.1) = .non))) H
    rw [ow_none, Bool.not_not]
    exact q
theorem cal_isr (T : Txt K mg a) : Cal P w K mg base 2 a.f_is_rung ["wakings", "claim"] [] sp_isr :=
  ⟨⟨_, _, ok_isr T, T.F_is_rung.binds fun _ _ _ _ _ _ => .all fun us hl => match us, hl with | [_, _], _ => rfl, .nil⟩⟩
local macro_rules | `(tactic| walk_at "use") => `(tactic| first
  | ((with_reducible refine' u_isr ?e1 ?e2 ?_); (case e1 => walk_at "dat"); (case e2 => assumption))
  | fail)
def wof (ts : List Int) (cs : List C4) : Int := ((cs.filter (hit ts)).map (·.2.2.2)).sum
def gof (ts : List Int) (cs : List C4) : List Str := (cs.filter fun c => !hit ts c).map (·.1)
def sp_wof : Sp := fun vs H Q _ => ∃ (v u : V) (ts : List Int) (cs : List C4), vs = [v, u] ∧ Dv H v (.list (ts.map PyData.int)) ∧ Dv H u (.list (cs.map c4D)) ∧ cs.length ≤ 60 ∧ ∀ H', Same H H' → Q (.int (wof ts cs)) H'
theorem u_wof {H : Hp} {Q : VK} {E : XK} {v u : V} {ts : List Int} {cs : List C4} (h : Dv H v (.list (ts.map PyData.int))) (h2 : Dv H u (.list (cs.map c4D))) (hl : cs.length ≤ 60) (q : ∀ H', Same H H' → Q (.int (wof ts cs)) H') : sp_wof [v, u] H Q E := ⟨v, u, ts, cs, rfl, h, h2, hl, q⟩
theorem ok_wof (T : Txt K mg a) : FnOk P w K mg base CX0 3 a.f_weight_of a.fd_weight_of ["wakings", "claims"] sp_wof := by
  have c_is_rung := cal_isr (P := P) (w := w) (base := base) T
  refine T.F_weight_of.ok sc_weight_of (fun vs H Q E h => ?_) (fun cdv A outer s H vs Q E hr h => ?_)
  · obtain ⟨_, _, _, _, rfl, _⟩ := h; rfl
  · obtain ⟨v, u, ts, cs, rfl, hv, hu, hl, q⟩ := h
    refine ⟨_, (pss_one (ps_ret (pe_callB (call_sumL rfl) rfl T.no_sum PyProof.Rows.boot_sum (pa_cons (pe_lc (T := ["claim"]) (M := ["wakings", "claims"]) (lcn (defScope s_weight_of) ["wakings", "claims"] rfl rfl (by decide +kernel)) rfl (pi_list (pv 1)) (fun _ _ _ _ _ => (pg_name (i := 0) (show List.Nodup (["claim", "wakings", "claims"] : List Str) by decide +kernel) rfl (Or.inl rfl))) (gown_name (by decide)) (fun _ _ _ _ _ => (pif_one (pt_truthK (K := K) rfl (pn_call c_is_rung (hr.mono (by decide)) rfl T.mg_is_rung T.kp_is_rung (pa_cons (pv 1) (pa_cons (pv 0) pa_nil))) (fun _ => rfl)))) (fun _ _ _ _ _ => (pe_ix (ix_KK (K := K) rfl) (pv 0) pe_int (fun _ _ => rfl)))) pa_nil)))), ?_⟩
    repeat' (walk_at "rd1")
    refine r_lc (cs := cs) (gd := c4D) (hit ts) (fun c => .int c.2.2.2) hu (by omega) (fun _ => rfl) (fun x c H' N hc sm' hd' yes no => ?_) (fun pq H5 sm5 hn5 hap => ?_)
    · repeat' (walk_at "rd1")
      refine r_lct (fun hb => ?_) (fun hb => no hb _ (Same.refl _))
      unfold c4D at hd'
      repeat' (walk_at "rd1")
      exact yes hb _ _ (Same.refl _) (.int _)
    · have hap' : LAt H5 pq (((cs.filter (hit ts)).map (·.2.2.2)).map PyData.int) := by rw [List.map_map]; exact hap
      repeat' (walk_at "rd1")
      exact q _ (by walk_at "same")
theorem cal_wof (T : Txt K mg a) : Cal P w K mg base 3 a.f_weight_of ["wakings", "claims"] [] sp_wof :=
  ⟨⟨_, _, ok_wof T, T.F_weight_of.binds fun _ _ _ _ _ _ => .all fun us hl => match us, hl with | [_, _], _ => rfl, .nil⟩⟩
def sp_gof : Sp := fun vs H Q _ => ∃ (v u : V) (ts : List Int) (cs : List C4), vs = [v, u] ∧ Dv H v (.list (ts.map PyData.int)) ∧ Dv H u (.list (cs.map c4D)) ∧ cs.length ≤ 60 ∧ ∀ q H' ss, Same H H' → H q = none → ss.Perm (gof ts cs) → UpS ss → LAt H' q (ss.map PyData.str) → Q (.ref q) H'
theorem u_gof {H : Hp} {Q : VK} {E : XK} {v u : V} {ts : List Int} {cs : List C4} (h : Dv H v (.list (ts.map PyData.int))) (h2 : Dv H u (.list (cs.map c4D))) (hl : cs.length ≤ 60) (q : ∀ q H' ss, Same H H' → H q = none → ss.Perm (gof ts cs) → UpS ss → LAt H' q (ss.map PyData.str) → Q (.ref q) H') : sp_gof [v, u] H Q E := ⟨v, u, ts, cs, rfl, h, h2, hl, q⟩
theorem ok_gof (T : Txt K mg a) : FnOk P w K mg base CX0 3 a.f_gave_way a.fd_gave_way ["wakings", "claims"] sp_gof := by
  have c_is_rung := cal_isr (P := P) (w := w) (base := base) T
  refine T.F_gave_way.ok sc_gave_way (fun vs H Q E h => ?_) (fun cdv A outer s H vs Q E hr h => ?_)
  · obtain ⟨_, _, _, _, rfl, _⟩ := h; rfl
  · obtain ⟨v, u, ts, cs, rfl, hv, hu, hl, q⟩ := h
    refine ⟨_, (pss_one (ps_ret (pe_callB call_sortS rfl T.no_sorted PyProof.Rows.boot_sorted (pa_cons (pe_lc (T := ["claim"]) (M := ["wakings", "claims"]) (lcn (defScope s_gave_way) ["wakings", "claims"] rfl rfl (by decide +kernel)) rfl (pi_list (pv 1)) (fun _ _ _ _ _ => (pg_name (i := 0) (show List.Nodup (["claim", "wakings", "claims"] : List Str) by decide +kernel) rfl (Or.inl rfl))) (gown_name (by decide)) (fun _ _ _ _ _ => (pif_one (pt_not (pt_truthK (K := K) rfl (pn_call c_is_rung (hr.mono (by decide)) rfl T.mg_is_rung T.kp_is_rung (pa_cons (pv 1) (pa_cons (pv 0) pa_nil))) (fun _ => rfl))))) (fun _ _ _ _ _ => (pe_ix (ix_KK (K := K) rfl) (pv 0) pe_int (fun _ _ => rfl)))) pa_nil)))), ?_⟩
    repeat' (walk_at "rd1")
    refine r_lc (cs := cs) (gd := c4D) (fun c => !hit ts c) (fun c => .str c.1) hu (by omega) (fun _ => rfl) (fun x c H' N hc sm' hd' yes no => ?_) (fun pq H5 sm5 hn5 hap => ?_)
    · repeat' (walk_at "rd1")
      refine r_lct (fun hb => ?_) (fun hb => no hb _ (Same.refl _))
      unfold c4D at hd'
      repeat' (walk_at "rd1")
      exact yes hb _ _ (Same.refl _) (.str _)
    · have hap' : LAt H5 pq ((gof ts cs).map PyData.str) := by unfold gof; rw [List.map_map]; exact hap
      have hgl : (gof ts cs).length < 64 := by
        unfold gof
        rw [List.length_map]
        have := List.length_filter_le (fun c => !hit ts c) cs
        omega
      repeat' (walk_at "rd1")
      rename_i q6 H6 ss sm6 hn6 hpm hup hl6
      exact q _ _ ss (by walk_at "same") (by walk_at "none") hpm hup hl6
theorem cal_gof (T : Txt K mg a) : Cal P w K mg base 3 a.f_gave_way ["wakings", "claims"] [] sp_gof :=
  ⟨⟨_, _, ok_gof T, T.F_gave_way.binds fun _ _ _ _ _ _ => .all fun us hl => match us, hl with | [_, _], _ => rfl, .nil⟩⟩
theorem hit_iff (ts : List Int) (c : C4) : hit ts c = true ↔ ∃ t ∈ ts, c.2.1 ≤ t ∧ t ≤ c.2.2.1 := by
  unfold hit firstIn
  rw [List.find?_isSome]
  simp
theorem sum_perm {l₁ l₂ : List Int} (h : l₁.Perm l₂) : l₁.sum = l₂.sum := by
  induction h with
  | nil => rfl
  | cons x _ ih => rw [List.sum_cons, List.sum_cons, ih]
  | swap x y l => simp only [List.sum_cons]; omega
  | trans _ _ h1 h2 => exact h1.trans h2
theorem take_snoc {α : Type} {l : List α} {j : Nat} {c : α} (h : l[j]? = some c) : l.take (j + 1) = l.take j ++ [c] := by
  rw [List.take_add_one, h]; rfl
theorem sum_app (xs ys : List Int) : (xs ++ ys).sum = xs.sum + ys.sum := by
  induction xs with
  | nil => simp
  | cons x r ih => simp only [List.cons_append, List.sum_cons, ih]; omega
def sf (P : C4 → Bool) (g : C4 → Int) (cs : List C4) : Int := ((cs.filter P).map g).sum
theorem sf_nil (P : C4 → Bool) (g : C4 → Int) : sf P g [] = 0 := rfl
theorem sf_cons (P : C4 → Bool) (g : C4 → Int) (c : C4) (cs : List C4) : sf P g (c :: cs) = (if P c = true then g c else 0) + sf P g cs := by
  unfold sf
  rw [List.filter_cons]
  split
  · rw [List.map_cons, List.sum_cons]
  · omega
theorem sf_app (P : C4 → Bool) (g : C4 → Int) (cs ds : List C4) : sf P g (cs ++ ds) = sf P g cs + sf P g ds := by
  unfold sf; rw [List.filter_append, List.map_append, sum_app]
theorem sf_le {P R : C4 → Bool} {g h : C4 → Int} : ∀ {cs : List C4}, (∀ c ∈ cs, P c = true → R c = true ∧ g c ≤ h c) → (∀ c ∈ cs, R c = true → 0 ≤ h c) → sf P g cs ≤ sf R h cs
  | [], _, _ => by rw [sf_nil, sf_nil]; exact Int.le_refl _
  | c :: cs, h1, h2 => by
    have ih := sf_le (fun d hd => h1 d (List.mem_cons_of_mem _ hd)) (fun d hd => h2 d (List.mem_cons_of_mem _ hd))
    rw [sf_cons, sf_cons]
    by_cases hp : P c = true
    · obtain ⟨hr, hg⟩ := h1 c List.mem_cons_self hp
      rw [if_pos hp, if_pos hr]; omega
    · rw [if_neg hp]
      by_cases hr : R c = true
      · rw [if_pos hr]; have := h2 c List.mem_cons_self hr; omega
      · rw [if_neg hr]; omega
theorem sf_or {P R : C4 → Bool} {g : C4 → Int} : ∀ {cs : List C4}, (∀ c ∈ cs, 0 ≤ g c) → sf (fun c => P c || R c) g cs ≤ sf P g cs + sf R g cs
  | [], _ => by rw [sf_nil, sf_nil, sf_nil]; decide
  | c :: cs, h => by
    have ih := sf_or (P := P) (R := R) (fun d hd => h d (List.mem_cons_of_mem _ hd))
    have hc := h c List.mem_cons_self
    rw [sf_cons, sf_cons, sf_cons]
    by_cases hp : P c = true
    · by_cases hr : R c = true
      · simp only [hp, hr, Bool.or_self, if_true]; omega
      · simp only [hp, hr, Bool.true_or, if_true, if_false, Bool.false_eq_true]; omega
    · by_cases hr : R c = true
      · simp only [hp, hr, Bool.or_true, if_true, if_false, Bool.false_eq_true]; omega
      · simp only [hp, hr, Bool.or_self, if_false, Bool.false_eq_true]; omega
theorem sf_perm {P : C4 → Bool} {g : C4 → Int} {cs ds : List C4} (h : cs.Perm ds) : sf P g cs = sf P g ds := sum_perm ((h.filter _).map _)
def con (p : Int) (c : C4) : Bool := decide (c.2.1 ≤ p) && decide (p ≤ c.2.2.1)
def load (f : Str → Int) (cs : List C4) (p : Int) : Int := sf (con p) (fun c => f c.1) cs
theorem con_iff {p : Int} {c : C4} : con p c = true ↔ c.2.1 ≤ p ∧ p ≤ c.2.2.1 := by simp [con]
theorem max_first : ∀ (ds : List C4), ds ≠ [] → ∃ c ∈ ds, ∀ d ∈ ds, d.2.1 ≤ c.2.1
  | [], h => absurd rfl h
  | [c], _ => ⟨c, by simp, fun d hd => by have : d = c := by simpa using hd
                                          rw [this]; exact Int.le_refl _⟩
  | c :: d :: r, _ => by
    obtain ⟨e, he, hm⟩ := max_first (d :: r) (by simp)
    by_cases h : c.2.1 ≤ e.2.1
    · exact ⟨e, List.mem_cons_of_mem _ he, fun x hx => (List.mem_cons.mp hx).elim (fun z => z ▸ h) (hm x)⟩
    · exact ⟨c, List.mem_cons_self, fun x hx => (List.mem_cons.mp hx).elim (fun z => z ▸ Int.le_refl _) (fun z => by have := hm x z; omega)⟩
theorem load_any {f : Str → Int} {cs : List C4} {pr : Int} (h0 : 0 ≤ pr) (hf : ∀ c ∈ cs, 0 ≤ f c.1) (hl : ∀ c ∈ cs, load f cs c.2.1 ≤ pr) (t : Int) : load f cs t ≤ pr := by
  by_cases h : cs.filter (con t) = []
  · unfold load sf; rw [h]; exact h0
  · obtain ⟨c, hc, hm⟩ := max_first _ h
    obtain ⟨hc1, hc2⟩ := List.mem_filter.mp hc
    refine Int.le_trans (sf_le (fun d hd hp => ⟨?_, Int.le_refl _⟩) (fun d hd _ => hf d hd)) (hl c hc1)
    have h1 := hm d (List.mem_filter.mpr ⟨hd, hp⟩)
    have h2 := con_iff.mp hp
    have h3 := con_iff.mp hc2
    exact con_iff.mpr ⟨h1, by omega⟩
theorem hit_cons (t : Int) (ts : List Int) (c : C4) : hit (t :: ts) c = (con t c || hit ts c) := by
  rw [Bool.eq_iff_iff, Bool.or_eq_true, hit_iff, hit_iff, con_iff]
  simp
theorem hit_sum {f : Str → Int} {cs : List C4} {pr : Int} (h0 : 0 ≤ pr) (hf : ∀ c ∈ cs, 0 ≤ f c.1) (hl : ∀ c ∈ cs, load f cs c.2.1 ≤ pr) : ∀ ts : List Int, sf (hit ts) (fun c => f c.1) cs ≤ ts.length * pr
  | [] => by
    have : cs.filter (hit []) = [] := List.filter_eq_nil_iff.mpr fun c _ => by rw [hit_iff]; simp
    unfold sf; rw [this]; simp
  | t :: ts => by
    have ih := hit_sum h0 hf hl ts
    have e : hit (t :: ts) = fun c => con t c || hit ts c := funext (hit_cons t ts)
    have h1 := sf_or (P := con t) (R := hit ts) (g := fun c => f c.1) (cs := cs) hf
    have h2 := load_any h0 hf hl t
    unfold load at h2
    rw [e, List.length_cons]
    have : ((ts.length + 1 : Nat) : Int) * pr = ts.length * pr + pr := by rw [Int.natCast_add, Int.add_mul]; simp
    omega
theorem sf_split {P : C4 → Bool} {g : C4 → Int} : ∀ cs : List C4, sf P g cs + sf (fun c => !P c) g cs = (cs.map g).sum
  | [] => rfl
  | c :: cs => by
    have ih := sf_split (P := P) (g := g) cs
    rw [sf_cons, sf_cons, List.map_cons, List.sum_cons]
    by_cases hp : P c = true
    · simp only [hp, if_true, Bool.not_true, Bool.false_eq_true, if_false]; omega
    · simp only [hp, if_false, Bool.not_false, if_true, Bool.false_eq_true]; omega
theorem wsum_sub (f : Str → Int) : ∀ cs : List C4, (cs.map fun c => c.2.2.2 - f c.1).sum = (cs.map fun c => c.2.2.2).sum - (cs.map fun c => f c.1).sum
  | [] => rfl
  | c :: cs => by have := wsum_sub f cs; simp only [List.map_cons, List.sum_cons] at this ⊢; omega
structure Shr (pr : Int) (cs : List C4) (f : Str → Int) : Prop where
  nn : ∀ c ∈ cs, 0 ≤ f c.1
  le : ∀ c ∈ cs, f c.1 ≤ c.2.2.2
  ld : ∀ c ∈ cs, load f cs c.2.1 ≤ pr
theorem Shr.first {pr : Int} {cs : List C4} {f : Str → Int} (h0 : 0 ≤ pr) (h : Shr pr cs f) (ts : List Int) : wof ts cs ≤ ts.length * pr + (cs.map fun c => c.2.2.2 - f c.1).sum := by
  have h1 := hit_sum h0 h.nn h.ld ts
  have h2 := sf_split (P := hit ts) (g := fun c => c.2.2.2 - f c.1) cs
  have h3 : 0 ≤ sf (fun c => !hit ts c) (fun c => c.2.2.2 - f c.1) cs := by
    have := sf_le (P := fun _ => false) (R := fun c => !hit ts c) (g := fun _ => 0) (h := fun c => c.2.2.2 - f c.1) (cs := cs) (fun c _ z => by cases z) (fun c hc _ => by have := h.le c hc; omega)
    have e : sf (fun _ => false) (fun _ => 0) cs = 0 := by unfold sf; rw [List.filter_eq_nil_iff.mpr (fun _ _ z => by cases z)]; rfl
    omega
  have h4 : wof ts cs = sf (hit ts) (fun c => f c.1) cs + sf (hit ts) (fun c => c.2.2.2 - f c.1) cs := by
    unfold wof sf
    induction cs.filter (hit ts) with
    | nil => rfl
    | cons c r ih => simp only [List.map_cons, List.sum_cons] at ih ⊢; omega
  omega
theorem Shr.second {pr : Int} {cs : List C4} {f : Str → Int} (h0 : 0 ≤ pr) (h : Shr pr cs f) (ts : List Int) {P : C4 → Bool} (hP : ∀ c ∈ cs, hit ts c = false → P c = true) (hw : ∀ c ∈ cs, 0 ≤ c.2.2.2) : (cs.map fun c => f c.1).sum ≤ ts.length * pr + sf P (fun c => c.2.2.2) cs := by
  have h1 := hit_sum h0 h.nn h.ld ts
  have h2 := sf_split (P := hit ts) (g := fun c => f c.1) cs
  have h3 : sf (fun c => !hit ts c) (fun c => f c.1) cs ≤ sf P (fun c => c.2.2.2) cs := sf_le (fun c hc z => ⟨hP c hc (by simpa using z), h.le c hc⟩) (fun c hc _ => hw c hc)
  omega
def updF (f : Str → Int) (n : Str) (v : Int) : Str → Int := fun x => if x = n then v else f x
theorem load_new {f : Str → Int} {ds : List C4} {c : C4} {v p : Int} (hn : c.1 ∉ ds.map (·.1)) : load (updF f c.1 v) (ds ++ [c]) p = load f ds p + (if con p c = true then v else 0) := by
  unfold load
  rw [sf_app, sf_cons, sf_nil]
  have e1 : sf (con p) (fun d => updF f c.1 v d.1) ds = sf (con p) (fun d => f d.1) ds := by
    unfold sf
    congr 1
    refine List.map_congr_left fun d hd => ?_
    have : d.1 ≠ c.1 := fun z => hn (z ▸ List.mem_map_of_mem (List.mem_filter.mp hd).1)
    simp [updF, this]
  have e2 : updF f c.1 v c.1 = v := by simp [updF]
  rw [e1, e2]
  omega
def addAt (v : Int) (l : List Int) (hs : List Nat) : List Int := hs.foldl (fun l i => l.set i (l.getD i 0 + v)) l
theorem addAt_snoc (v : Int) (l : List Int) (hs : List Nat) (i : Nat) : addAt v l (hs ++ [i]) = (addAt v l hs).set i ((addAt v l hs).getD i 0 + v) := by unfold addAt; rw [List.foldl_append]; rfl
theorem addAt_len (v : Int) : ∀ (hs : List Nat) (l : List Int), (addAt v l hs).length = l.length
  | [], _ => rfl
  | h :: hs, l => by show (addAt v (l.set h (l.getD h 0 + v)) hs).length = _; rw [addAt_len v hs, List.length_set]
theorem addAt_get (v : Int) : ∀ (hs : List Nat) (l : List Int), hs.Nodup → ∀ i, i < l.length → (addAt v l hs).getD i 0 = l.getD i 0 + (if i ∈ hs then v else 0)
  | [], l, _, i, _ => by show l.getD i 0 = _; simp
  | h :: hs, l, nd, i, hi => by
    obtain ⟨n1, n2⟩ := List.nodup_cons.mp nd
    show (addAt v (l.set h (l.getD h 0 + v)) hs).getD i 0 = _
    rw [addAt_get v hs _ n2 i (by rw [List.length_set]; exact hi)]
    by_cases e : i = h
    · subst e
      have : (l.set i (l.getD i 0 + v)).getD i 0 = l.getD i 0 + v := by
        rw [List.getD_eq_getElem?_getD, List.getElem?_set_self hi]; rfl
      rw [this, if_neg n1, if_pos List.mem_cons_self]; omega
    · have : (l.set h (l.getD h 0 + v)).getD i 0 = l.getD i 0 := by
        rw [List.getD_eq_getElem?_getD, List.getElem?_set_ne (Ne.symm e), ← List.getD_eq_getElem?_getD]
      rw [this]
      by_cases m : i ∈ hs
      · rw [if_pos m, if_pos (List.mem_cons_of_mem _ m)]
      · rw [if_neg m, if_neg (by simp [e, m])]
def heldOf (ps : List Int) (c : C4) : List Nat := (ps.zipIdx.filter fun x => con x.1 c).map (·.2)
theorem held_mem {ps : List Int} {c : C4} {i : Nat} : i ∈ heldOf ps c ↔ ∃ p, ps[i]? = some p ∧ con p c = true := by
  unfold heldOf
  rw [List.mem_map]
  constructor
  · rintro ⟨⟨p, j⟩, h, rfl⟩
    obtain ⟨h1, h2⟩ := List.mem_filter.mp h
    exact ⟨p, List.mk_mem_zipIdx_iff_getElem?.mp h1, h2⟩
  · rintro ⟨p, h1, h2⟩
    exact ⟨(p, i), List.mem_filter.mpr ⟨List.mk_mem_zipIdx_iff_getElem?.mpr h1, h2⟩, rfl⟩
theorem held_nd (ps : List Int) (c : C4) : (heldOf ps c).Nodup := by
  have h1 : (ps.zipIdx.map (·.2)).Nodup := by
    rw [List.zipIdx_map_snd]; exact List.nodup_range'
  exact h1.sublist (List.filter_sublist.map _)
theorem held_lt {ps : List Int} {c : C4} {i : Nat} (h : i ∈ heldOf ps c) : i < ps.length := by
  obtain ⟨p, h1, _⟩ := held_mem.mp h
  exact (List.getElem?_eq_some_iff.mp h1).1
theorem held_len (ps : List Int) (c : C4) : (heldOf ps c).length ≤ ps.length := by
  unfold heldOf
  rw [List.length_map]
  exact Nat.le_trans (List.length_filter_le _ _) (by rw [List.length_zipIdx]; exact Nat.le_refl _)
theorem addAt_all {ps : List Int} {c : C4} {v : Int} {g : Int → Int} : addAt v (ps.map g) (heldOf ps c) = ps.map fun p => g p + (if con p c = true then v else 0) := by
  have hl : (addAt v (ps.map g) (heldOf ps c)).length = ps.length := by rw [addAt_len, List.length_map]
  refine List.ext_getElem (by rw [hl, List.length_map]) fun i h1 h2 => ?_
  have hi : i < ps.length := by omega
  have h3 := addAt_get v (heldOf ps c) (ps.map g) (held_nd ps c) i (by rw [List.length_map]; exact hi)
  rw [List.getD_eq_getElem?_getD, List.getElem?_eq_getElem h1, Option.getD_some] at h3
  rw [h3, List.getElem_map, List.getD_eq_getElem?_getD, List.getElem?_map, List.getElem?_eq_getElem hi]
  by_cases hc : con ps[i] c = true
  · rw [if_pos hc, if_pos (held_mem.mpr ⟨_, List.getElem?_eq_getElem hi, hc⟩)]; rfl
  · rw [if_neg hc, if_neg (fun z => by
      obtain ⟨p, e1, e2⟩ := held_mem.mp z
      rw [List.getElem?_eq_getElem hi] at e1
      cases e1
      exact hc e2)]; rfl
structure Pr (pr : Int) (ps : List Int) (f : Str → Int) (ds : List C4) : Prop where
  nn : ∀ c ∈ ds, 0 ≤ f c.1 ∧ f c.1 ≤ c.2.2.2
  ld : ∀ p ∈ ps, load f ds p ≤ pr
theorem Pr.step {pr mx v : Int} {ps : List Int} {f : Str → Int} {ds : List C4} {c : C4} (h : Pr pr ps f ds) (hn : c.1 ∉ ds.map (·.1)) (hm : ∀ i ∈ heldOf ps c, (ps.map (load f ds)).getD i 0 ≤ mx) (hx : ∃ i ∈ heldOf ps c, mx = (ps.map (load f ds)).getD i 0) (hv : v = c.2.2.2 ∨ v = pr - mx) (hv1 : v ≤ c.2.2.2) (hv2 : v ≤ pr - mx) (hw : 1 ≤ c.2.2.2) : Pr pr ps (updF f c.1 v) (ds ++ [c]) := by
  have hmx : mx ≤ pr := by
    obtain ⟨i, hi, e⟩ := hx
    have hl := held_lt hi
    rw [List.getD_eq_getElem?_getD, List.getElem?_map, List.getElem?_eq_getElem hl] at e
    have : mx = load f ds ps[i] := e
    rw [this]; exact h.ld _ (List.getElem_mem hl)
  refine ⟨fun d hd => ?_, fun p hp => ?_⟩
  · rcases List.mem_append.mp hd with hd | hd
    · have : d.1 ≠ c.1 := fun z => hn (z ▸ List.mem_map_of_mem hd)
      simp only [updF, if_neg this]
      exact h.nn d hd
    · have : d = c := by simpa using hd
      subst this
      simp only [updF, if_true]
      omega
  · rw [load_new hn]
    have := h.ld p hp
    by_cases hc : con p c = true
    · rw [if_pos hc]
      obtain ⟨i, hi, rfl⟩ := List.getElem_of_mem hp
      have := hm i (held_mem.mpr ⟨_, List.getElem?_eq_getElem hi, hc⟩)
      rw [List.getD_eq_getElem?_getD, List.getElem?_map, List.getElem?_eq_getElem hi] at this
      have : load f ds ps[i] ≤ mx := this
      omega
    · rw [if_neg hc]; omega
theorem Pr.shr {pr : Int} {ps : List Int} {f : Str → Int} {ls cs : List C4} (h : Pr pr ps f ls) (hp : ls.Perm cs) (hm : ∀ c ∈ cs, c.2.1 ∈ ps) : Shr pr cs f := by
  refine ⟨fun c hc => (h.nn c (hp.mem_iff.mpr hc)).1, fun c hc => (h.nn c (hp.mem_iff.mpr hc)).2, fun c hc => ?_⟩
  have := h.ld _ (hm c hc)
  unfold load at this ⊢
  rwa [sf_perm hp] at this
theorem dvs_set {H : Hp} {y : V} {d : PyData} (hy : Dv H y d) : ∀ {xs : List V} {ds : List PyData} (j : Nat), Dvs H xs ds → Dvs H (xs.set j y) (ds.set j d)
  | [], [], _, _ => .nil
  | _ :: _, _ :: _, 0, .cons _ t => .cons hy t
  | _ :: _, _ :: _, j + 1, .cons h t => .cons h (dvs_set hy j t)
theorem immAll_set {d : PyData} (hd : Imm d = true) {ds : List PyData} (j : Nat) (h : ImmAll ds = true) : ImmAll (ds.set j d) = true := by
  rw [immAll_iff] at h ⊢
  intro x hx
  rcases List.mem_or_eq_of_mem_set hx with h1 | rfl
  · exact h x h1
  · exact hd
theorem r_asgS {D : Ends} {σ : St} {H : Hp} {to ti te : TE} {t : TSet} (h : te σ H fun v H1 => to σ H1 fun o H2 => ti σ H2 fun i H3 => t o i v H3 fun H4 => D.nx σ H4) : tAsg te (gSub to ti t) D σ H := h
theorem r_setL {H : Hp} {p : Addr} {ds : List PyData} {j : Nat} {k : Int} {y : V} {d : PyData} {R : Hp → Prop} (hp : LAt H p ds) (hk : ixN ds.length k = some j) (hy : Dv H y d) (hi : Imm d = true) (h : ∀ H2, Mv [p] H H2 → LAt H2 p (ds.set j d) → R H2) : rSetL (.ref p) (.int k) y H R := by
  obtain ⟨xs, e, dv, im⟩ := hp
  have m : Mv [p] H (upd H p (.lst (xs.set j y))) := .of_upd e (by intro _ z; cases z)
  exact ⟨p, xs, k, j, rfl, rfl, e, by rw [dv.length]; exact hk, h _ m ⟨_, upd_same, m.dats (immAll_set hi j im) (dvs_set hy j dv), immAll_set hi j im⟩⟩
local macro_rules | `(tactic| walk_at "rd1") => `(tactic| first
  | with_reducible refine r_asgS ?_
  | ((with_reducible refine' r_setL ?e1 ?e2 ?e3 ?e4 (fun _ _ _ => ?_)); (case e1 => walk_at "lat"); (case e2 => exact rfl); (case e3 => walk_at "dat"); (case e4 => exact rfl))
  | fail)
def c4Key (c : C4) : Int × Str := (c.2.2.1, c.1)
theorem c4D_imm (c : C4) : Imm (c4D c) = true := rfl
theorem c4D_inj {c d : C4} (h : c4D c = c4D d) : c = d := by
  obtain ⟨a, b, c, e⟩ := c
  obtain ⟨a', b', c', e'⟩ := d
  simp only [c4D, PyData.tuple.injEq, List.cons.injEq, PyData.str.injEq, PyData.int.injEq, and_true] at h
  obtain ⟨rfl, rfl, rfl, rfl⟩ := h
  rfl
def sp_by_last4 : Sp := fun vs H Q _ => ∃ (v : V) (c : C4), vs = [v] ∧ Dv H v (c4D c) ∧ ∀ y H', Same H H' → Dv H' y (.tuple [.int (c4Key c).1, .str (c4Key c).2]) → Q y H'
theorem u_by_last4 {H : Hp} {Q : VK} {E : XK} {v : V} {c : C4} (h : Dv H v (c4D c)) (q : ∀ y H', Same H H' → Dv H' y (.tuple [.int (c4Key c).1, .str (c4Key c).2]) → Q y H') : sp_by_last4 [v] H Q E := ⟨v, c, rfl, h, q⟩
theorem ok_by_last4 (T : Txt K mg a) : FnOk P w K mg base CX0 1 a.f_by_last a.fd_by_last ["claim"] sp_by_last4 := by
  refine T.F_by_last.ok sc_by_last (fun vs H Q E h => ?_) (fun cdv A outer s H vs Q E hr h => ?_)
  · obtain ⟨_, _, rfl, _⟩ := h; rfl
  · obtain ⟨v, c, rfl, hv, q⟩ := h
    have hv' : Dv H v (.tuple [.str c.1, .int c.2.1, .int c.2.2.1, .int c.2.2.2]) := hv
    refine ⟨_, (pss_one (ps_ret (pe_tupD (pa_cons (pe_ix ix_K (pv 0) pe_int (fun _ _ => rfl)) (pa_cons (pe_ix ix_K (pv 0) pe_int (fun _ _ => rfl)) pa_nil))))), ?_⟩
    repeat' (walk_at "rd1")
    exact q _ _ (by walk_at "same") (by walk_at "dat")
theorem cal_by_last4 (T : Txt K mg a) : Cal P w K mg base 1 a.f_by_last ["claim"] [] sp_by_last4 :=
  ⟨⟨_, _, ok_by_last4 T, T.F_by_last.binds fun _ _ _ _ _ _ => .all fun us hl => match us, hl with | [_], _ => rfl, .nil⟩⟩
def shD (f : Str → Int) (cs : List C4) : List (Str × PyData) := cs.map fun c => (c.1, .int (f c.1))
theorem shD_put {f : Str → Int} {n : Str} {v : Int} : ∀ {cs : List C4}, n ∈ cs.map (·.1) → putD (shD f cs) n (.int v) = shD (updF f n v) cs := fun {cs} h => by
  have h1 : ((shD f cs).any fun kv => decide (kv.1 = n)) = true := by
    obtain ⟨c, hc, rfl⟩ := List.mem_map.mp h
    exact List.any_eq_true.mpr ⟨_, List.mem_map_of_mem hc, decide_eq_true rfl⟩
  unfold putD
  rw [if_pos h1]
  unfold shD
  rw [List.map_map]
  refine List.map_congr_left fun c _ => ?_
  simp only [Function.comp, updF]
  split <;> rfl
theorem shD_new {cs : List C4} {n : Str} (h : n ∉ cs.map (·.1)) : putD (shD (fun _ => 0) cs) n (.int 0) = shD (fun _ => 0) cs ++ [(n, .int 0)] := by
  have h1 : ¬ ((shD (fun _ => 0) cs).any fun kv => decide (kv.1 = n)) = true := by
    intro z
    obtain ⟨kv, hkv, e⟩ := List.any_eq_true.mp z
    obtain ⟨c, hc, rfl⟩ := List.mem_map.mp hkv
    exact h (List.mem_map.mpr ⟨c, hc, of_decide_eq_true e⟩)
  unfold putD
  rw [if_neg h1]
theorem shD_lkp {f : Str → Int} {n : Str} {cs : List C4} (h : n ∈ cs.map (·.1)) : lkp (shD f cs) n = some (.int (f n)) := by
  unfold lkp
  cases e : (shD f cs).find? fun kv => decide (kv.1 = n) with
  | none =>
    obtain ⟨c, hc, rfl⟩ := List.mem_map.mp h
    have := List.find?_eq_none.mp e _ (List.mem_map_of_mem hc)
    simp at this
  | some kv =>
    have h1 := List.find?_some e
    obtain ⟨c, hc, rfl⟩ := List.mem_map.mp (List.mem_of_find?_eq_some e)
    have : c.1 = n := of_decide_eq_true h1
    subst this
    rfl
theorem fil_all {α : Type} (l : List α) : l.filter (fun _ => true) = l := List.filter_eq_self.mpr fun _ _ => rfl
theorem nd_len : ∀ {xs ys : List Int}, xs.Nodup → (∀ x ∈ xs, x ∈ ys) → xs.length ≤ ys.length
  | [], _, _, _ => Nat.zero_le _
  | x :: xs, ys, h, hs => by
    obtain ⟨h1, h2⟩ := List.nodup_cons.mp h
    have hx := hs x List.mem_cons_self
    have ih := nd_len (xs := xs) (ys := ys.erase x) h2 fun y hy => (List.mem_erase_of_ne (fun z : y = x => h1 (by rw [← z]; exact hy))).mpr (hs y (List.mem_cons_of_mem _ hy))
    rw [List.length_erase_of_mem hx] at ih
    have : 0 < ys.length := List.length_pos_of_mem hx
    rw [List.length_cons]
    omega
theorem nd_take {α β : Type} {f : α → β} {l : List α} {j : Nat} {c : α} (h : (l.map f).Nodup) (hc : l[j]? = some c) : f c ∉ (l.take j).map f := by
  intro hm
  obtain ⟨d, hd, e⟩ := List.mem_map.mp hm
  obtain ⟨i, hi, rfl⟩ := List.getElem_of_mem hd
  have hij : i < j := by rw [List.length_take] at hi; omega
  have hjl : j < l.length := (List.getElem?_eq_some_iff.mp hc).1
  rw [List.Nodup, List.pairwise_map] at h
  have := List.pairwise_iff_getElem.mp h i j (by omega) hjl hij
  rw [List.getElem_take] at e
  have hc' : l[j] = c := Option.some.inj ((List.getElem?_eq_getElem hjl).symm.trans hc)
  rw [hc'] at this
  exact this e
theorem shD_len (f : Str → Int) (cs : List C4) : (shD f cs).length = cs.length := List.length_map ..
theorem shD_snoc (f : Str → Int) (cs : List C4) (c : C4) : shD f (cs ++ [c]) = shD f cs ++ [(c.1, .int (f c.1))] := by unfold shD; rw [List.map_append]; rfl
theorem ixN_nat {n i : Nat} (h : i < n) : ixN n (i : Int) = some i := by unfold ixN; rw [if_pos (Int.natCast_nonneg _), if_pos (Int.ofNat_lt.mpr h)]; rfl
theorem in_first {x y b : Addr} (h : b ∈ [x]) : b ∈ [x, y] := by
  have : b = x := by simpa using h
  rw [this]; exact List.mem_cons_self
def sp_shares : Sp := fun vs H Q _ => ∃ (pr : Int) (v : V) (cs : List C4), vs = [.int pr, v] ∧ Dv H v (.list (cs.map c4D)) ∧ C5Ok cs ∧ cs.length ≤ 26 ∧ 0 ≤ pr ∧ ∀ p H' f, Same H H' → H p = none → DAt H' p (shD f cs) → Shr pr cs f → Q (.ref p) H'
theorem u_shares {H : Hp} {Q : VK} {E : XK} {pr : Int} {v : V} {cs : List C4} (h : Dv H v (.list (cs.map c4D))) (ho : C5Ok cs) (hl : cs.length ≤ 26) (h0 : 0 ≤ pr) (q : ∀ p H' f, Same H H' → H p = none → DAt H' p (shD f cs) → Shr pr cs f → Q (.ref p) H') : sp_shares [.int pr, v] H Q E := ⟨pr, v, cs, rfl, h, ho, hl, h0, q⟩
theorem ok_shares (T : Txt K mg a) : FnOk P w K mg base CX0 5 a.f_shares_at a.fd_shares_at ["price", "claims"] sp_shares := by
  have c_by_last := cal_by_last4 (P := P) (w := w) (base := base) T
  refine T.F_shares_at.ok sc_shares_at (fun vs H Q E h => ?_) (fun cdv A outer s H vs Q E hr h => ?_)
  · obtain ⟨_, _, _, rfl, _⟩ := h; rfl
  · obtain ⟨pr, v, cs, rfl, hv, hok, hl, h0, q⟩ := h
    refine ⟨_, (pss_cut (ps_set (i := 2) sc_shares_at.nd rfl (Or.inl rfl) (pe_sortSet (pe_lc (T := ["name", "first", "last", "weight"]) (M := ["price", "claims", "points", "loads", "shares", "05", "06", "07", "08", "held", "place"]) (lcn (defScope s_shares_at) ["price", "claims", "points", "loads", "shares", "name", "first", "last", "weight", "held", "place"] rfl rfl (by decide +kernel)) rfl (pi_list (pv 1)) (fun _ _ _ _ _ => (pg_tupK (K := K) (n := 4) rfl rfl (pgs_cons (pg_name (i := 0) (show List.Nodup (["name", "first", "last", "weight", "price", "claims", "points", "loads", "shares", "05", "06", "07", "08", "held", "place"] : List Str) by decide +kernel) rfl (Or.inl rfl)) (pgs_cons (pg_name (i := 1) (show List.Nodup (["name", "first", "last", "weight", "price", "claims", "points", "loads", "shares", "05", "06", "07", "08", "held", "place"] : List Str) by decide +kernel) rfl (Or.inl rfl)) (pgs_cons (pg_name (i := 2) (show List.Nodup (["name", "first", "last", "weight", "price", "claims", "points", "loads", "shares", "05", "06", "07", "08", "held", "place"] : List Str) by decide +kernel) rfl (Or.inl rfl)) (pgs_cons (pg_name (i := 3) (show List.Nodup (["name", "first", "last", "weight", "price", "claims", "points", "loads", "shares", "05", "06", "07", "08", "held", "place"] : List Str) by decide +kernel) rfl (Or.inl rfl)) pgs_nil)))))) (gown_tup (gsown_cons (by decide) (gsown_cons (by decide) (gsown_cons (by decide) (gsown_cons (by decide) gsown_nil))))) (fun _ _ _ _ _ => pif_nil) (fun _ _ _ _ _ => (pv 1))) rfl rfl T.no_sorted rfl T.no_set))
      (pss_cut (ps_set (i := 3) sc_shares_at.nd rfl (Or.inr rfl) (pe_lc (T := ["point"]) (M := ["price", "claims", "points", "loads", "shares", "name", "first", "last", "weight", "held", "place"]) (lcn (defScope s_shares_at) ["price", "claims", "points", "loads", "shares", "name", "first", "last", "weight", "held", "place"] rfl rfl (by decide +kernel)) rfl (pi_list (pv 2)) (fun _ _ _ _ _ => (pg_name (i := 0) (show List.Nodup (["point", "price", "claims", "points", "loads", "shares", "name", "first", "last", "weight", "held", "place"] : List Str) by decide +kernel) rfl (Or.inl rfl))) (gown_name (by decide)) (fun _ _ _ _ _ => pif_nil) (fun _ _ _ _ _ => pe_int)))
      (pss_cut (ps_set (i := 4) sc_shares_at.nd rfl (Or.inl rfl) pe_dnewK)
      (pss_cut (ps_for PassesOwn.never rfl (pi_list (pv 1)) (pg_tup (n := 4) rfl (pgs_cons (pg_name (i := 5) sc_shares_at.nd rfl (Or.inl rfl)) (pgs_cons (pg_name (i := 6) sc_shares_at.nd rfl (Or.inr rfl)) (pgs_cons (pg_name (i := 7) sc_shares_at.nd rfl (Or.inr rfl)) (pgs_cons (pg_name (i := 8) sc_shares_at.nd rfl (Or.inl rfl)) pgs_nil)))))
        (pss_one (ps_dput (hu_of hr) (pv 4) (pv 5) pe_int rfl)))
      (pss_cut (ps_for PassesOwn.never rfl (pi_list (pe_sortK c_by_last (hr.mono (by decide)) rfl T.no_sorted (pe_glob rfl T.mg_by_last rfl) (pa_cons (pv 1) pa_nil))) (pg_tup (n := 4) rfl (pgs_cons (pg_name (i := 5) sc_shares_at.nd rfl (Or.inl rfl)) (pgs_cons (pg_name (i := 6) sc_shares_at.nd rfl (Or.inr rfl)) (pgs_cons (pg_name (i := 7) sc_shares_at.nd rfl (Or.inr rfl)) (pgs_cons (pg_name (i := 8) sc_shares_at.nd rfl (Or.inl rfl)) pgs_nil)))))
        (pss_cut (ps_lc (i := 9) sc_shares_at.nd rfl (Or.inl rfl) (T := ["place", "point"]) (M := ["price", "claims", "points", "loads", "shares", "name", "first", "last", "weight", "held", "010"]) (lcn (defScope s_shares_at) ["price", "claims", "points", "loads", "shares", "name", "first", "last", "weight", "held", "place"] rfl rfl (by decide +kernel)) rfl (pi_enum rfl T.no_enumerate (pa_cons (pv 2) pa_nil)) (fun _ _ _ _ _ => (pg_tupK (K := K) (n := 2) rfl rfl (pgs_cons (pg_name (i := 0) (show List.Nodup (["place", "point", "price", "claims", "points", "loads", "shares", "name", "first", "last", "weight", "held", "010"] : List Str) by decide +kernel) rfl (Or.inl rfl)) (pgs_cons (pg_name (i := 1) (show List.Nodup (["place", "point", "price", "claims", "points", "loads", "shares", "name", "first", "last", "weight", "held", "010"] : List Str) by decide +kernel) rfl (Or.inl rfl)) pgs_nil)))) (gown_tup (gsown_cons (by decide) (gsown_cons (by decide) gsown_nil))) (fun _ _ _ _ _ => (pif_one (pt_chain op_le op_le (pv 8) (pv 1) (pv 9)))) (fun _ _ _ _ _ => (pv 0)) rfl)
        (pss_cut (ps_dput (hu_of hr) (pv 4) (pv 5) (pe_callB (call_minP rfl) rfl T.no_min PyProof.Rows.boot_min (pa_cons (pv 8) (pa_cons (pe_op op_sub (pv 0) (pe_callB (call_maxL rfl) rfl T.no_max PyProof.Rows.boot_max (pa_cons (pe_lc (T := ["place"]) (M := ["price", "claims", "points", "loads", "shares", "name", "first", "last", "weight", "held", "010"]) (lcn (defScope s_shares_at) ["price", "claims", "points", "loads", "shares", "name", "first", "last", "weight", "held", "place"] rfl rfl (by decide +kernel)) rfl (pi_list (pv 9)) (fun _ _ _ _ _ => (pg_name (i := 0) (show List.Nodup (["place", "price", "claims", "points", "loads", "shares", "name", "first", "last", "weight", "held", "010"] : List Str) by decide +kernel) rfl (Or.inl rfl))) (gown_name (by decide)) (fun _ _ _ _ _ => pif_nil) (fun _ _ _ _ _ => (pe_ix (ix_KK (K := K) rfl) (pv 4) (pv 0) (fun _ _ => rfl)))) pa_nil))) pa_nil))) rfl)
        (pss_one (ps_for PassesOwn.never rfl (pi_list (pv 9)) (pg_name (i := 10) sc_shares_at.nd rfl (Or.inl rfl))
          (pss_one (ps_asg (pe_op op_add (pe_ix ix_K (pv 3) (pv 10) (fun _ _ => rfl)) (pe_dget (hu_of hr) (pv 4) (pv 5) (fun _ _ => rfl))) (pg_sub (pv 3) (pv 10) set_list))))))))
      (pss_one (ps_ret (pv 4)))))))), ?_⟩
    repeat' (walk_at "rd1")
    refine r_sortSetT ?_
    repeat' (walk_at "rd1")
    refine r_lc (cs := cs) (gd := c4D) (fun _ => true) (fun c => .int c.2.1) hv (by omega) (fun _ => rfl) (fun x c H2 N hc sm2 hx yes no => ?_) (fun q1 H1 sm1 hn1 hq1 => ?_)
    · have hx' : Dv H2 x (.tuple [.str c.1, .int c.2.1, .int c.2.2.1, .int c.2.2.2]) := hx
      refine r_unp4 hx' (fun v1 v2 v3 v4 e1 e2 e3 e4 => ?_)
      obtain rfl := e1.str_inv
      obtain rfl := e2.int_inv
      obtain rfl := e3.int_inv
      obtain rfl := e4.int_inv
      refine r_lct (fun hb => ?_) (fun hb => by cases hb)
      repeat' (walk_at "rd1")
      exact yes rfl _ _ (Same.refl _) (.int _)
    have hq1' : Dv H1 (.ref q1) (.list ((cs.map (·.2.1)).map PyData.int)) := by
      have := hq1.dv
      rw [fil_all] at this
      rw [List.map_map]; exact this
    refine r_sortSet hq1' (by rw [List.length_map]; omega) (fun q2 H2 ps sm2 hn2 hlt hmem hq2 => ?_)
    have hpl : ps.length ≤ 26 := by
      have := nd_len (hlt.imp fun h => Int.ne_of_lt h) (fun x hx => (hmem x).mp hx)
      rw [List.length_map] at this
      omega
    repeat' (walk_at "rd1")
    refine r_lc (cs := ps) (gd := PyData.int) (fun _ => true) (fun _ => .int 0) hq2.dv (by omega) (fun _ => rfl) (fun x c H3 N hc sm3 hx yes no => ?_) (fun q3 H3 sm3 hn3 hq3 => ?_)
    · obtain rfl := hx.int_inv
      repeat' (walk_at "rd1")
      refine r_lct (fun hb => ?_) (fun hb => by cases hb)
      repeat' (walk_at "rd1")
      exact yes rfl _ _ (Same.refl _) (.int _)
    rw [fil_all] at hq3
    repeat' (walk_at "rd1")
    rename_i q4 H4 sm4 hn4 hq4
    have smH3 : Same H H3 := (sm1.trans sm2).trans sm3
    refine forDB (Hb := H) (cs := cs) (gd := c4D) hv (fun j σ' H' => ∃ z5 z6 z7 z8, σ' = [some (.int pr), some v, some (.ref q2), some (.ref q3), some (.ref q4), z5, z6, z7, z8, none, none] ∧ Same H3 H' ∧ DAt H' q4 (shD (fun _ => 0) (cs.take j))) ⟨_, _, _, _, rfl, sm4, hq4⟩ (fun i σ' H' _ ⟨_, _, _, _, _, sm', _⟩ a' xs _ hx => Same.seq (smH3.trans sm') hx) ?_ ?_
    · rintro j c x σ' H' hc ⟨z5, z6, z7, z8, rfl, sm', hd'⟩ _ hd
      have hx : Dv H' x (.tuple [.str c.1, .int c.2.1, .int c.2.2.1, .int c.2.2.2]) := hd (smH3.trans sm')
      have hml : (shD (fun _ => 0) (cs.take j)).length ≤ 26 := by rw [shD_len, List.length_take]; omega
      refine r_unp4 hx (fun v1 v2 v3 v4 e1 e2 e3 e4 => ?_)
      obtain rfl := e1.str_inv
      obtain rfl := e2.int_inv
      obtain rfl := e3.int_inv
      obtain rfl := e4.int_inv
      repeat' (walk_at "rd1")
      rename_i H5 mv5 hd5
      rw [shD_new (nd_take hok.nd hc)] at hd5
      exact ⟨_, _, _, _, rfl, by walk_at "same", by rw [take_snoc hc, shD_snoc]; exact hd5⟩
    rintro σ' H' ⟨z5, z6, z7, z8, rfl, sm', hd'⟩
    rw [List.take_length] at hd'
    have sm'a := sm'
    have hv' : Dv H' v (.list (cs.map c4D)) := hv.keeps (smH3.trans sm')
    repeat' (walk_at "rd1")
    refine r_sortK (cs := cs) c4D c4Key c4D_imm (fun c c' h => by rw [c4D_inj h]) hv' (by omega) (fun c v' H' hc sm' hd => u_by_last4 hd (fun y H'' s d => ⟨s, d⟩)) (fun sq H5 ls sm5 hn5 hperm hord hsq => ?_)
    repeat' (walk_at "rd1")
    have hq2a : LAt H' q2 (ps.map PyData.int) := (hq2.keeps sm3).keeps sm'
    have hq3a : LAt H' q3 (ps.map fun _ => PyData.int 0) := hq3.keeps sm'
    have n23 : q2 ≠ q3 := hq2.ne hn3
    have n24 : q2 ≠ q4 := (hq2.keeps sm3).ne hn4
    have n34 : q3 ≠ q4 := hq3.ne hn4
    have n2s : q2 ≠ sq := hq2a.ne hn5
    have n3s : q3 ≠ sq := hq3a.ne hn5
    have n4s : q4 ≠ sq := hd'.ne hn5
    have hq2b := hq2a.keeps sm5
    have hq3b := hq3a.keeps sm5
    have hd5 := hd'.keeps sm5
    have hll : ls.length = cs.length := hperm.length_eq
    have hnd : (ls.map (·.1)).Nodup := (hperm.map _).nodup_iff.mpr hok.nd
    refine forDB (Hb := H5) (cs := ls) (gd := c4D) hsq.dv (fun j σ' H' => ∃ z5 z6 z7 z8 z9 z10 f, σ' = [some (.int pr), some v, some (.ref q2), some (.ref q3), some (.ref q4), z5, z6, z7, z8, z9, z10] ∧ Mv [q3, q4] H5 H' ∧ DAt H' q4 (shD f cs) ∧ LAt H' q3 ((ps.map (load f (ls.take j))).map PyData.int) ∧ Pr pr ps f (ls.take j)) ⟨_, _, _, _, _, _, fun _ => 0, rfl, Mv.refl, hd5, by rw [List.map_map]; exact hq3b, ⟨fun c hc => by simp at hc, fun p _ => h0⟩⟩ (fun i σ' H' _ ⟨_, _, _, _, _, _, _, _, mv, _⟩ a' xs e hx => by cases e; exact mv.sq (by simp [Ne.symm n3s, Ne.symm n4s]) hx) ?_ ?_
    · rintro j c x σ' H' hc ⟨z5, z6, z7, z8, z9, z10, f, rfl, mv, hd', hlo, hpr⟩ hd _
      have hx : Dv H' x (.tuple [.str c.1, .int c.2.1, .int c.2.2.1, .int c.2.2.2]) := hd rfl mv.tp
      have hjl : j < ls.length := (List.getElem?_eq_some_iff.mp hc).1
      have hcm : c ∈ ls := List.mem_of_getElem? hc
      have hcc : c ∈ cs := hperm.mem_iff.mp hcm
      have hcn : c.1 ∈ cs.map (·.1) := List.mem_map_of_mem hcc
      have hnot := nd_take hnd hc
      have htk := take_snoc hc
      have hw := hok.w1 c hcc
      have hml : (shD f cs).length ≤ 26 := by rw [shD_len]; exact hl
      have hq2c : LAt H' q2 (ps.map PyData.int) := hq2b.mv mv (by simp [n23, n24])
      refine r_unp4 hx (fun v1 v2 v3 v4 e1 e2 e3 e4 => ?_)
      obtain rfl := e1.str_inv
      obtain rfl := e2.int_inv
      obtain rfl := e3.int_inv
      obtain rfl := e4.int_inv
      repeat' (walk_at "rd1")
      refine r_lcE (cs := ps) (gd := PyData.int) (fun x => con x.1 c) (fun x => .int (x.2 : Nat)) hq2c.dv (by omega) (fun _ => rfl) (fun y t Hx N ht sm2 hy yes no => ?_) (fun hq H6 sm6 hn6 hhq => ?_)
      · refine r_unpP hy (fun w1 w2 f1 f2 => ?_)
        obtain rfl := f1.int_inv
        obtain rfl := f2.int_inv
        repeat' (walk_at "rd1")
        · rename_i h1
          refine r_lct (fun hb => ?_) (fun hb => no (by simp [con, h1, of_decide_eq_false hb]) _ (Same.refl _))
          repeat' (walk_at "rd1")
          exact yes (by simp [con, h1, of_decide_eq_true hb]) _ _ (Same.refl _) (.int _)
        · rename_i h1
          exact r_lct (fun hb => by cases hb) (fun _ => no (by simp [con, h1]) _ (Same.refl _))
      have hhq' : LAt H6 hq ((heldOf ps c).map fun i => PyData.int (i : Nat)) := by unfold heldOf; rw [List.map_map]; exact hhq
      have hhl := held_len ps c
      have hd6 := hd'.keeps sm6
      have hlo6 := hlo.keeps sm6
      have n3h : q3 ≠ hq := hlo.ne hn6
      have n4h : q4 ≠ hq := hd'.ne hn6
      have hpos : 0 < ((heldOf ps c).map fun i => (ps.map (load f (ls.take j))).getD i 0).length := by
        rw [List.length_map]
        have hf : c.2.1 ∈ ps := (hmem _).mpr (List.mem_map_of_mem hcc)
        obtain ⟨i, hi, e⟩ := List.getElem_of_mem hf
        exact List.length_pos_of_mem (held_mem.mpr ⟨c.2.1, by rw [List.getElem?_eq_getElem hi, e], con_iff.mpr ⟨Int.le_refl _, hok.ok.wd c hcc⟩⟩)
      repeat' (walk_at "rd1")
      refine r_lc (cs := heldOf ps c) (gd := fun i => .int (i : Nat)) (fun _ => true) (fun i => .int ((ps.map (load f (ls.take j))).getD i 0)) hhq'.dv (by omega) (fun _ => rfl) (fun y i Hx N hi sm7 hy yes no => ?_) (fun mq H7 sm7 hn7 hmq => ?_)
      · obtain rfl := hy.int_inv
        have hlt := held_lt hi
        repeat' (walk_at "rd1")
        refine r_lct (fun hb => ?_) (fun hb => by cases hb)
        repeat' (walk_at "rd1")
        exact yes rfl _ _ (Same.refl _) (.int _)
      rw [fil_all] at hmq
      have hmq' : Dv H7 (.ref mq) (.list (((heldOf ps c).map fun i => (ps.map (load f (ls.take j))).getD i 0).map PyData.int)) := by rw [List.map_map]; exact hmq.dv
      have hd7 := hd6.keeps sm7
      repeat' (walk_at "rd1")
      refine r_maxL hmq' hpos (fun mx hmx hmax => ?_)
      repeat' (walk_at "rd1")
      rename_i vv hv hv1 hv2 H8 mv8 hd8
      rw [shD_put hcn] at hd8
      have hlk : lkp (shD (updF f c.1 vv) cs) c.1 = some (.int vv) := by rw [shD_lkp hcn]; simp [updF]
      have hlo8 : LAt H8 q3 ((ps.map (load f (ls.take j))).map PyData.int) := (hlo6.keeps sm7).mv mv8 (by simp [n34])
      have hhq8 : LAt H8 hq ((heldOf ps c).map fun i => PyData.int (i : Nat)) := (hhq'.keeps sm7).mv mv8 (by simp [Ne.symm n4h])
      have mvT : Mv [q3, q4] H5 H8 := by
        refine ((mv.stepS sm6).stepS sm7).step mv8 ?_
        exact fun b hb => .inl (List.mem_cons_of_mem _ hb)
      refine forDB (Hb := H8) (cs := heldOf ps c) (gd := fun i => PyData.int (i : Nat)) hhq8.dv (fun t σ' H' => ∃ z10, σ' = [some (.int pr), some v, some (.ref q2), some (.ref q3), some (.ref q4), some (.str c.1), some (.int c.2.1), some (.int c.2.2.1), some (.int c.2.2.2), some (.ref hq), z10] ∧ Mv [q3] H8 H' ∧ LAt H' q3 ((addAt vv (ps.map (load f (ls.take j))) ((heldOf ps c).take t)).map PyData.int)) ⟨_, rfl, Mv.refl, hlo8⟩ (fun i σ' H' _ ⟨_, _, mv, _⟩ a' xs e hx => by cases e; exact mv.sq (by simp [Ne.symm n3h]) hx) ?_ ?_
      · rintro t i x σ' H' hi ⟨z10, rfl, mv9, hlo9⟩ hd9 _
        obtain rfl := (hd9 rfl mv9.tp).int_inv
        have hit := held_lt (List.mem_of_getElem? hi)
        have hd9' : DAt H' q4 (shD (updF f c.1 vv) cs) := hd8.mv mv9 (by simp [Ne.symm n34])
        have hal : (addAt vv (ps.map (load f (ls.take j))) ((heldOf ps c).take t)).length = ps.length := by rw [addAt_len, List.length_map]
        repeat' (walk_at "rd1")
        refine r_setL (j := i) hlo9 (ixN_nat (by rw [List.length_map, hal]; exact hit)) (Dv.int _) rfl (fun H9 mv10 hlo10 => ?_)
        refine ⟨_, rfl, mv9.step mv10 fun b hb => .inl hb, ?_⟩
        rw [take_snoc hi, addAt_snoc, List.map_set]
        exact hlo10
      · rintro σ' H' ⟨z10, rfl, mv9, hlo9⟩
        rw [List.take_length, addAt_all] at hlo9
        refine ⟨_, _, _, _, _, _, updF f c.1 vv, rfl, ?_, hd8.mv mv9 (by simp [Ne.symm n34]), ?_, ?_⟩
        · exact mvT.step mv9 fun b hb => .inl (in_first hb)
        · rw [htk]
          have : ps.map (load (updF f c.1 vv) (ls.take j ++ [c])) = ps.map fun p => load f (ls.take j) p + (if con p c = true then vv else 0) := List.map_congr_left fun p _ => load_new hnot
          rw [this]; exact hlo9
        · rw [htk]
          obtain ⟨i, hi, e⟩ := List.mem_map.mp hmx
          exact hpr.step hnot (fun i hi => hmax _ (List.mem_map.mpr ⟨i, hi, rfl⟩)) ⟨i, hi, e.symm⟩ hv hv1 hv2 hw.1
    · rintro σ' H' ⟨z5, z6, z7, z8, z9, z10, f, rfl, mv, hd', hlo, hpr⟩
      rw [List.take_length] at hpr
      repeat' (walk_at "rd1")
      refine q q4 H' f ?_ ?_ hd' (hpr.shr hperm fun c hc => (hmem _).mpr (List.mem_map_of_mem hc))
      · have h3 : H q3 = none := (sm1.trans sm2).none hn3
        have h4 : H q4 = none := smH3.none hn4
        intro b u e
        refine mv.kp b u (fun z => ?_) (sm5 b u (sm'a b u (smH3 b u e)))
        have : b = q3 ∨ b = q4 := by simpa using z
        rcases this with rfl | rfl
        · rw [h3] at e; cases e
        · rw [h4] at e; cases e
      · exact smH3.none hn4
theorem cal_shares (T : Txt K mg a) : Cal P w K mg base 5 a.f_shares_at ["price", "claims"] [] sp_shares :=
  ⟨⟨_, _, ok_shares T, T.F_shares_at.binds fun _ _ _ _ _ _ => .all fun us hl => match us, hl with | [_, _], _ => rfl, .nil⟩⟩
theorem wsum_bd : ∀ {cs : List C4}, (∀ c ∈ cs, 1 ≤ c.2.2.2 ∧ c.2.2.2 ≤ 10 ^ 12) → 0 ≤ (cs.map fun c => c.2.2.2).sum ∧ (cs.map fun c => c.2.2.2).sum ≤ 10 ^ 12 * cs.length
  | [], _ => by simp
  | c :: cs, h => by
    have ih := wsum_bd (cs := cs) fun d hd => h d (List.mem_cons_of_mem _ hd)
    have hc := h c List.mem_cons_self
    rw [List.map_cons, List.sum_cons, List.length_cons]
    omega
def sp_price : Sp := fun vs H Q _ => ∃ (v : V) (c : Int) (cs : List C4), vs = [v, .int c] ∧ Dv H v (.list (cs.map c4D)) ∧ C5Ok cs ∧ cs.length ≤ 26 ∧ ∀ H' pr, Same H H' → 0 ≤ pr → pr < 10 ^ 40 → Q (.int pr) H'
theorem u_price {H : Hp} {Q : VK} {E : XK} {v : V} {c : Int} {cs : List C4} (h : Dv H v (.list (cs.map c4D))) (ho : C5Ok cs) (hl : cs.length ≤ 26) (q : ∀ H' pr, Same H H' → 0 ≤ pr → pr < 10 ^ 40 → Q (.int pr) H') : sp_price [v, .int c] H Q E := ⟨v, c, cs, rfl, h, ho, hl, q⟩
theorem ok_price (T : Txt K mg a) : FnOk P w K mg base CX0 1 a.f__law_price a.fd__law_price ["_law_claims_here", "_law_cell"] sp_price := by
  refine T.F__law_price.ok sc__law_price (fun vs H Q E h => ?_) (fun cdv A outer s H vs Q E hr h => ?_)
  · obtain ⟨_, _, _, rfl, _⟩ := h; rfl
  · obtain ⟨v, c, cs, rfl, hv, hok, hl, q⟩ := h
    refine ⟨_, (pss_cut (ps_if (pt_cmpR (op_eqA hr.hu8) (pe_op op_modP (pv 1) pe_int) pe_int (nomark _))
        (pss_one (ps_ret (pe_op op_modP (pe_op op_fdivB (pv 1) pe_int) pe_int)))
        pss_nil)
      (pss_cut (ps_if (pt_cmpR (op_eqA hr.hu8) (pe_op op_modP (pv 1) pe_int) pe_int (nomark _))
        (pss_one (ps_ret (pe_op op_modP (pe_op op_fdivB (pv 1) pe_int) (pe_op op_add pe_int (pe_callB (call_sumL rfl) rfl T.no_sum PyProof.Rows.boot_sum (pa_cons (pe_lc (T := ["_law_one"]) (M := ["_law_claims_here", "_law_cell"]) (lcn (defScope s__law_price) ["_law_claims_here", "_law_cell"] rfl rfl (by decide +kernel)) rfl (pi_list (pv 0)) (fun _ _ _ _ _ => (pg_name (i := 0) (show List.Nodup (["_law_one", "_law_claims_here", "_law_cell"] : List Str) by decide +kernel) rfl (Or.inl rfl))) (gown_name (by decide)) (fun _ _ _ _ _ => pif_nil) (fun _ _ _ _ _ => (pe_ix (ix_KK (K := K) rfl) (pv 0) pe_int (fun _ _ => rfl)))) pa_nil))))))
        pss_nil)
      (pss_one (ps_ret (pe_op op_modP (pe_op op_fdivB (pv 1) pe_int) (pe_op op_pow pe_int pe_int)))))), ?_⟩
    repeat' (walk_at "rd1")
    · exact q _ _ (Same.refl _) (by omega) (by omega)
    · refine r_lc (cs := cs) (gd := c4D) (fun _ => true) (fun c => .int c.2.2.2) hv (by omega) (fun _ => rfl) (fun x c H2 N hc sm2 hx yes no => ?_) (fun q1 H1 sm1 hn1 hq1 => ?_)
      · have hx' : Dv H2 x (.tuple [.str c.1, .int c.2.1, .int c.2.2.1, .int c.2.2.2]) := hx
        repeat' (walk_at "rd1")
        refine r_lct (fun hb => ?_) (fun hb => by cases hb)
        repeat' (walk_at "rd1")
        exact yes rfl _ _ (Same.refl _) (.int _)
      rw [fil_all] at hq1
      have hq1' : Dv H1 (.ref q1) (.list ((cs.map fun c => c.2.2.2).map PyData.int)) := by rw [List.map_map]; exact hq1.dv
      have hb := wsum_bd hok.w1
      repeat' (walk_at "rd1")
      exact q _ _ (by walk_at "same") (by omega) (by omega)
    · exact q _ _ (Same.refl _) (by omega) (by omega)
theorem cal_price (T : Txt K mg a) : Cal P w K mg base 1 a.f__law_price ["_law_claims_here", "_law_cell"] [] sp_price :=
  ⟨⟨_, _, ok_price T, T.F__law_price.binds fun _ _ _ _ _ _ => .all fun us hl => match us, hl with | [_, _], _ => rfl, .nil⟩⟩
theorem ok_law (T : Txt K mg a) : FnOk P w K mg base CX0 8 a.f_law a.fd_law ["_law_script"] (sp_law K) := by
  have c__law_cell_at := cal_law_cell_at (P := P) (w := w) (base := base) T
  have c__law_claims := cal_claims4 (P := P) (w := w) (base := base) T
  have c__law_price := cal_price (P := P) (w := w) (base := base) T
  have c__law_times := cal_times (P := P) (w := w) (base := base) T
  have c_shares_at := cal_shares (P := P) (w := w) (base := base) T
  have c_weight_of := cal_wof (P := P) (w := w) (base := base) T
  have c_gave_way := cal_gof (P := P) (w := w) (base := base) T
  refine T.F_law.ok sc_law (fun vs H Q E h => ?_) (fun cdv A outer s H vs Q E hr h => ?_)
  · obtain ⟨_, _, rfl, _⟩ := h; rfl
  · obtain ⟨l, ns, rfl, hl, hn, q⟩ := h
    refine ⟨_, (pss_cut (ps_set (i := 1) sc_law.nd rfl (Or.inl rfl) (pe_op op_modP (pn_call c__law_cell_at (hr.mono (by decide)) rfl T.mg__law_cell_at T.kp__law_cell_at (pa_cons (pv 0) (pa_cons pe_int pa_nil))) pe_int))
      (pss_cutM (ps_if (pt_cmpR (op_eqA hr.hu8) (pe_op op_modP (pe_op op_fdivB (pn_call c__law_cell_at (hr.mono (by decide)) rfl T.mg__law_cell_at T.kp__law_cell_at (pa_cons (pv 0) (pa_cons pe_int pa_nil))) pe_int) pe_int) pe_int (nomark _))
        (pss_one (ps_set (i := 1) sc_law.nd rfl (Or.inl rfl) (pe_op op_add pe_int (pe_op op_modP (pe_op op_fdivB (pn_call c__law_cell_at (hr.mono (by decide)) rfl T.mg__law_cell_at T.kp__law_cell_at (pa_cons (pv 0) (pa_cons pe_int pa_nil))) pe_int) pe_int))))
        pss_nil)
      (pss_cut (ps_set (i := 2) sc_law.nd rfl (Or.inl rfl) (pn_call c__law_claims (hr.mono (by decide)) rfl T.mg__law_claims T.kp__law_claims (pa_cons (pv 0) (pa_cons (pv 1) pa_nil))))
      (pss_cut (ps_set (i := 3) sc_law.nd rfl (Or.inl rfl) (pn_call c__law_price (hr.mono (by decide)) rfl T.mg__law_price T.kp__law_price (pa_cons (pv 2) (pa_cons (pn_call c__law_cell_at (hr.mono (by decide)) rfl T.mg__law_cell_at T.kp__law_cell_at (pa_cons (pv 0) (pa_cons pe_int pa_nil))) pa_nil))))
      (pss_cut (ps_set (i := 4) sc_law.nd rfl (Or.inl rfl) (pn_call c__law_times (hr.mono (by decide)) rfl T.mg__law_times T.kp__law_times (pa_cons (pv 2) (pa_cons (pn_call c__law_cell_at (hr.mono (by decide)) rfl T.mg__law_cell_at T.kp__law_cell_at (pa_cons (pv 0) (pa_cons pe_int pa_nil))) (pa_cons (pe_op op_modP (pn_call c__law_cell_at (hr.mono (by decide)) rfl T.mg__law_cell_at T.kp__law_cell_at (pa_cons (pv 0) (pa_cons pe_int pa_nil))) pe_int) pa_nil)))))
      (pss_cut (ps_set (i := 5) sc_law.nd rfl (Or.inl rfl) (pn_call c_shares_at (hr.mono (by decide)) rfl T.mg_shares_at T.kp_shares_at (pa_cons (pv 3) (pa_cons (pe_callTy call_listOf rfl T.no_list PyProof.Rows.boot_list (pa_cons (pv 2) pa_nil)) pa_nil))))
      (pss_cut (ps_set (i := 6) sc_law.nd rfl (Or.inl rfl) (pe_op op_mulB (pe_callB call_lenK rfl T.no_len PySem.boot_len (pa_cons (pv 4) pa_nil)) (pv 3)))
      (pss_cut (ps_for PassesOwn.never rfl (pi_list (pv 2)) (pg_name (i := 7) sc_law.nd rfl (Or.inl rfl))
        (pss_one (ps_set (i := 6) sc_law.nd rfl (Or.inl rfl) (pe_op op_sub (pe_op op_add (pv 6) (pe_ix ix_K (pv 7) pe_int (fun _ _ => rfl))) (pe_dget (hu_of hr) (pv 5) (pe_ix ix_K (pv 7) pe_int (fun _ _ => rfl)) (fun _ _ => rfl))))))
      (pss_cut (ps_if (pt_cmpR op_gt (pn_call c_weight_of (hr.mono (by decide)) rfl T.mg_weight_of T.kp_weight_of (pa_cons (pe_callTy call_listOf rfl T.no_list PyProof.Rows.boot_list (pa_cons (pv 4) pa_nil)) (pa_cons (pe_callTy call_listOf rfl T.no_list PyProof.Rows.boot_list (pa_cons (pv 2) pa_nil)) pa_nil))) (pv 6) (nomark _))
        (pss_one (ps_ret pe_bl))
        pss_nil)
      (pss_cut (ps_set (i := 8) sc_law.nd rfl (Or.inr rfl) (pn_call c_gave_way (hr.mono (by decide)) rfl T.mg_gave_way T.kp_gave_way (pa_cons (pe_callTy call_listOf rfl T.no_list PyProof.Rows.boot_list (pa_cons (pv 4) pa_nil)) (pa_cons (pe_callTy call_listOf rfl T.no_list PyProof.Rows.boot_list (pa_cons (pv 2) pa_nil)) pa_nil))))
      (pss_cut (ps_set (i := 9) sc_law.nd rfl (Or.inl rfl) (pe_callB (call_sumL rfl) rfl T.no_sum PyProof.Rows.boot_sum (pa_cons (pe_lc (T := ["_law_one"]) (M := ["_law_script", "_law_many", "_law_claims_here", "_law_price_here", "_law_times_here", "_law_shares", "_law_bound", "07", "_law_left", "_law_lost"]) (lcn (defScope s_law) ["_law_script", "_law_many", "_law_claims_here", "_law_price_here", "_law_times_here", "_law_shares", "_law_bound", "_law_one", "_law_left", "_law_lost"] rfl rfl (by decide +kernel)) rfl (pi_list (pv 2)) (fun _ _ _ _ _ => (pg_name (i := 0) (show List.Nodup (["_law_one", "_law_script", "_law_many", "_law_claims_here", "_law_price_here", "_law_times_here", "_law_shares", "_law_bound", "07", "_law_left", "_law_lost"] : List Str) by decide +kernel) rfl (Or.inl rfl))) (gown_name (by decide)) (fun _ _ _ _ _ => (pif_one (pt_cmpR (op_inK (K := K) rfl) (pe_ix (ix_KK (K := K) rfl) (pv 0) pe_int (fun _ _ => rfl)) (pv 9) rfl))) (fun _ _ _ _ _ => (pe_ix (ix_KK (K := K) rfl) (pv 0) pe_int (fun _ _ => rfl)))) pa_nil)))
      (pss_one (ps_ret (pe_cmpR op_le (pe_sumV (pv 5) rfl rfl T.no_sum) (pe_op op_add (pe_op op_mulB (pe_callB call_lenK rfl T.no_len PySem.boot_len (pa_cons (pv 4) pa_nil)) (pv 3)) (pv 9)) (nomark _))))))))))))))), ?_⟩
    repeat' (walk_at "rd1")
    refine r_cutM (fun σ' H' => H = H' ∧ ∃ m, σ' = [some (.ref l), some (.int m), none, none, none, none, none, none, none, none] ∧ 0 ≤ m ∧ m ≤ 26) ?_ ?_
    · repeat' (walk_at "rd1")
      · exact ⟨rfl, _, rfl, by omega, by omega⟩
      · exact ⟨rfl, _, rfl, by omega, by omega⟩
    rintro σ' H' ⟨rfl, m, rfl, m0, m1⟩
    repeat' (walk_at "rd1")
    refine u_claims4 hl m0 m1 (fun pc H1 cs sm1 hn1 hcl hok hpc => ?_)
    have hcn : cs.length ≤ 26 := by omega
    have hl1 : SqL K H1 l (ns.map V.int) := by walk_at "sql"
    repeat' (walk_at "rd1")
    refine u_price hpc.dv hok hcn (fun H2 pr sm2 p0 p1 => ?_)
    have hpc2 := hpc.keeps sm2
    have hl2 : SqL K H2 l (ns.map V.int) := by walk_at "sql"
    repeat' (walk_at "rd1")
    refine u_times hpc2.dv hok.ok (by omega) (by omega) (by omega) (fun pt H3 ts sm3 hn3 htl hpt => ?_)
    have hpc3 := hpc2.keeps sm3
    have htn : ts.length ≤ 20 := by omega
    repeat' (walk_at "rd1")
    rename_i ph H4 sm4 hn4 hph
    refine u_shares hph.dv hok hcn p0 (fun pd H5 f sm5 hn5 hd hsh => ?_)
    have hpc5 := (hpc3.keeps sm4).keeps sm5
    have hpt5 := (hpt.keeps sm4).keeps sm5
    repeat' (walk_at "rd1")
    refine forDB (Hb := H5) (cs := cs) (gd := c4D) hpc5.dv (fun j σ' H' => H5 = H' ∧ ∃ z7 b, σ' = [some (.ref l), some (.int m), some (.ref pc), some (.int pr), some (.ref pt), some (.ref pd), some (.int b), z7, none, none] ∧ b = ts.length * pr + ((cs.take j).map fun c => c.2.2.2 - f c.1).sum) ⟨rfl, _, _, rfl, by simp⟩ (fun i σ' H' _ ⟨e, _⟩ a' xs _ hx => e ▸ hx) ?_ ?_
    · rintro j c x σ' H' hc ⟨rfl, z7, b, rfl, hb⟩ _ hd1
      have hx : Dv H5 x (.tuple [.str c.1, .int c.2.1, .int c.2.2.1, .int c.2.2.2]) := hd1 (Same.refl _)
      have hcc : c ∈ cs := List.mem_of_getElem? hc
      have hlk : lkp (shD f cs) c.1 = some (.int (f c.1)) := shD_lkp (List.mem_map_of_mem hcc)
      repeat' (walk_at "rd1")
      refine ⟨rfl, _, _, rfl, ?_⟩
      rw [take_snoc hc, List.map_append, sum_app, List.map_cons, List.map_nil, List.sum_cons, List.sum_nil, hb]
      omega
    rintro σ' H' ⟨rfl, z7, b, rfl, hb⟩
    rw [List.take_length] at hb
    have hfirst := hsh.first p0 ts
    repeat' (walk_at "rd1")
    rename_i pw1 H6 sm6 hn6 hpw1 pw2 H7 sm7 hn7 hpw2
    refine u_wof (by walk_at "dat") hpw2.dv (by omega) (fun H8 sm8 => ?_)
    repeat' (walk_at "rd1")
    rename_i hnb pg1 H9 sm9 hn9 hpg1 pg2 H10 sm10 hn10 hpg2
    refine u_gof (by walk_at "dat") hpg2.dv (by omega) (fun pl H11 ss sm11 hn11 hperm hup hpl => ?_)
    have smA : Same H5 H11 := ((((sm6.trans sm7).trans sm8).trans sm9).trans sm10).trans sm11
    have hpc11 := hpc5.keeps smA
    have hd11 := hd.keeps smA
    have hpt11 := hpt5.keeps smA
    have hgm : ∀ c ∈ cs, hit ts c = false → ss.contains c.1 = true := fun c hc hh => by
      rw [List.contains_iff_mem]
      refine hperm.mem_iff.mpr ?_
      unfold gof
      exact List.mem_map.mpr ⟨c, List.mem_filter.mpr ⟨hc, by simp [hh]⟩, rfl⟩
    have hsecond := hsh.second p0 ts hgm (fun c hc => by have := hok.w1 c hc; omega)
    repeat' (walk_at "rd1")
    refine r_lc (cs := cs) (gd := c4D) (fun c => ss.contains c.1) (fun c => .int c.2.2.2) hpc11.dv (by omega) (fun _ => rfl) (fun x c H2 N hc sm2 hx yes no => ?_) (fun q1 H12 sm12 hn12 hq1 => ?_)
    · have hx' : Dv H2 x (.tuple [.str c.1, .int c.2.1, .int c.2.2.1, .int c.2.2.2]) := hx
      have hpl2 := hpl.keeps sm2
      repeat' (walk_at "rd1")
      refine r_lct (fun hb => ?_) (fun hb => no hb _ (Same.refl _))
      repeat' (walk_at "rd1")
      exact yes hb _ _ (Same.refl _) (.int _)
    have hq1' : Dv H12 (.ref q1) (.list (((cs.filter fun c => ss.contains c.1).map fun c => c.2.2.2).map PyData.int)) := by rw [List.map_map]; exact hq1.dv
    repeat' (walk_at "rd1")
    refine r_sumV (hd11.keeps sm12) (ns := cs.map fun c => f c.1) (by unfold shD; rw [List.map_map, List.map_map]; rfl) ?_
    repeat' (walk_at "rd1")
    unfold sf at hsecond
    show Q (.bl (decide _)) _
    rw [decide_eq_true (by simpa using hsecond)]
    exact q _

end
end My
open PySem PySem.W PyProof.Rows
set_option maxRecDepth 100000 in
set_option maxHeartbeats 0 in
theorem PySem.Challenge.cw_wakefew_k45_shares_against_wakings_holds : PySem.Challenge.rw_wakefew_k45_shares_against_wakings.Holds := by
  w_on; o_law; k_head; (case hw => w_witness2)
  k_fill
  refine L2.walk_ofK (l := PySem.Challenge.rw_wakefew_k45_shares_against_wakings) (n := 63) (k := 14) (x := "_law_script") (CX := L2.CX0) (sp := My.sp_law) rfl (by decide) rfl ⟨rfl, by decide, by decide⟩ (fun w h Y => PySem.W.kIn_of Y) ?F ?S ?C
  case F =>
    intro w mg fa h KX G hmg
    have T : ∃ a : My.Ad, a.f_law = a.f_law ∧ My.Txt (L2.KOf KX) mg a := by
      dsimp only [L2.KOf]
      refine' My.txt_mk KX G ?hgg ?htt ?a_by_last ?l_by_last ?c_by_last ?k_by_last ?a_first_within ?l_first_within ?c_first_within ?k_first_within ?a_is_rung ?l_is_rung ?c_is_rung ?k_is_rung ?a_weight_of ?l_weight_of ?c_weight_of ?k_weight_of ?a_gave_way ?l_gave_way ?c_gave_way ?k_gave_way ?a_shares_at ?l_shares_at ?c_shares_at ?k_shares_at ?a__law_cell_at ?l__law_cell_at ?c__law_cell_at ?k__law_cell_at ?a__law_mixed ?l__law_mixed ?c__law_mixed ?k__law_mixed ?a__law_name ?l__law_name ?c__law_name ?k__law_name ?a__law_cells ?l__law_cells ?c__law_cells ?k__law_cells ?a__law_claims ?l__law_claims ?c__law_claims ?k__law_claims ?a__law_price ?l__law_price ?c__law_price ?k__law_price ?a__law_times ?l__law_times ?c__law_times ?k__law_times ?a_law ?l_law ?c_law ?k_law ?no_enumerate ?no_len ?no_list ?no_max ?no_min ?no_range ?no_set ?no_sorted ?no_sum
      (case hgg => k_is)
      (case htt => k_is)
      (case a_by_last => k_is)
      (case l_by_last => k_is)
      (case c_by_last => k_is)
      (case k_by_last => k_is)
      (case a_first_within => k_is)
      (case l_first_within => k_is)
      (case c_first_within => k_is)
      (case k_first_within => k_is)
      (case a_is_rung => k_is)
      (case l_is_rung => k_is)
      (case c_is_rung => k_is)
      (case k_is_rung => k_is)
      (case a_weight_of => k_is)
      (case l_weight_of => k_is)
      (case c_weight_of => k_is)
      (case k_weight_of => k_is)
      (case a_gave_way => k_is)
      (case l_gave_way => k_is)
      (case c_gave_way => k_is)
      (case k_gave_way => k_is)
      (case a_shares_at => k_is)
      (case l_shares_at => k_is)
      (case c_shares_at => k_is)
      (case k_shares_at => k_is)
      (case a__law_cell_at => k_is)
      (case l__law_cell_at => k_is)
      (case c__law_cell_at => k_is)
      (case k__law_cell_at => k_is)
      (case a__law_mixed => k_is)
      (case l__law_mixed => k_is)
      (case c__law_mixed => k_is)
      (case k__law_mixed => k_is)
      (case a__law_name => k_is)
      (case l__law_name => k_is)
      (case c__law_name => k_is)
      (case k__law_name => k_is)
      (case a__law_cells => k_is)
      (case l__law_cells => k_is)
      (case c__law_cells => k_is)
      (case k__law_cells => k_is)
      (case a__law_claims => k_is)
      (case l__law_claims => k_is)
      (case c__law_claims => k_is)
      (case k__law_claims => k_is)
      (case a__law_price => k_is)
      (case l__law_price => k_is)
      (case c__law_price => k_is)
      (case k__law_price => k_is)
      (case a__law_times => k_is)
      (case l__law_times => k_is)
      (case c__law_times => k_is)
      (case k__law_times => k_is)
      (case a_law => k_is)
      (case l_law => k_is)
      (case c_law => k_is)
      (case k_law => k_is)
      (case no_enumerate => k_is)
      (case no_len => k_is)
      (case no_list => k_is)
      (case no_max => k_is)
      (case no_min => k_is)
      (case no_range => k_is)
      (case no_set => k_is)
      (case no_sorted => k_is)
      (case no_sum => k_is)
    obtain ⟨a, _, T⟩ := T
    have e0 := hmg.symm.trans T.mg_law
    cases e0
    exact ⟨a.fd_law, fun s u => My.law_binds T s u, fun base kb nb => (My.ok_law T).mono (by decide)⟩
  case S => exact fun K H l ns hl hO hS => ⟨l, ns, rfl, hS, hl, fun _ => rfl⟩
  case C => exact fun H s e s' h => h
