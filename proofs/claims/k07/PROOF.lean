import PyProof.Rows.All
import Wide.All
import OpenK.AllK
import Wide.FinOn
import Lean
import PyProof.EqAt
import PyProof.EqKinds
import PyProof.TupleCall
import PySem.Challenge.RW_wakefew_k07_rules_in_words
set_option compiler.extract_closed false
set_option Elab.async false
set_option linter.all false
set_option maxRecDepth 100000
namespace L2
open PySem PySem.Spec PyProof.Rows

abbrev Key := Sum Int Str
def keyIs : Key → Value → Bool
  | .inl k, v => Value.isInt k v
  | .inr x, v => Value.isStrOf x v
def keyH (w : World) : Key → Int
  | .inl k => hashInt k
  | .inr x => hashStr w x
theorem keyIs_shape : ∀ {k : Key} {v : Value}, keyIs k v = true → (∃ i t, k = Sum.inl i ∧ v = Value.int i t) ∨ (∃ x t, k = Sum.inr x ∧ v = Value.str x t)
  | .inl i, v, h => by
    obtain ⟨t, e⟩ := Value.isInt_shape (k := i) (v := v) h
    exact .inl ⟨i, t, rfl, e⟩
  | .inr x, v, h => by
    obtain ⟨t, e⟩ := Value.isStrOf_shape (x := x) (v := v) h
    exact .inr ⟨x, t, rfl, e⟩
theorem key_ll (a b : Int) : decide ((Sum.inl a : Key) = Sum.inl b) = (a == b) := by
  by_cases e : a = b
  · subst e; simp
  · have h : ¬ (Sum.inl a : Key) = Sum.inl b := fun q => e (Sum.inl.inj q)
    rw [decide_eq_false h]
    exact (beq_eq_false_iff_ne.mpr e).symm
theorem key_rr (a b : Str) : decide ((Sum.inr a : Key) = Sum.inr b) = decide (a = b) := by
  by_cases e : a = b
  · subst e; simp
  · have h : ¬ (Sum.inr a : Key) = Sum.inr b := fun q => e (Sum.inr.inj q)
    rw [decide_eq_false h, decide_eq_false e]
theorem key_lr (a : Int) (b : Str) : decide ((Sum.inl a : Key) = Sum.inr b) = false := decide_eq_false (fun q => nomatch q)
theorem key_rl (a : Str) (b : Int) : decide ((Sum.inr a : Key) = Sum.inl b) = false := decide_eq_false (fun q => nomatch q)

def mixKind (prog : Program) (w : World) : PySem.KeyKind prog w Key where
  is := keyIs
  hash := keyH w
  inj := fun v a b ha hb => by
    rcases keyIs_shape ha with ⟨i, t, rfl, rfl⟩ | ⟨x, t, rfl, rfl⟩
    · rcases keyIs_shape hb with ⟨j, u, rfl, e⟩ | ⟨y, u, rfl, e⟩
      · injection e with e1 _; rw [e1]
      · exact nomatch e
    · rcases keyIs_shape hb with ⟨j, u, rfl, e⟩ | ⟨y, u, rfl, e⟩
      · exact nomatch e
      · injection e with e1 _; rw [e1]
  byValue := fun k v h => by
    rcases keyIs_shape h with ⟨i, t, rfl, rfl⟩ | ⟨x, t, rfl, rfl⟩ <;> rfl
  pyHash := fun hv h => by
    rcases keyIs_shape hv with ⟨i, t, rfl, rfl⟩ | ⟨x, t, rfl, rfl⟩
    · exact wpAny_pyHash_int h
    · exact wpAny_pyHash_str h
  eqBool := fun hu hv h => by
    rcases keyIs_shape hu with ⟨i, t, rfl, rfl⟩ | ⟨x, t, rfl, rfl⟩
    · rcases keyIs_shape hv with ⟨j, u, rfl, rfl⟩ | ⟨y, u, rfl, rfl⟩
      · rw [key_ll] at h; exact wpAny_eqBool_int h
      · rw [key_lr] at h; exact SeqAt.EqAt.int_str i t y u _ _ _ _ h
    · rcases keyIs_shape hv with ⟨j, u, rfl, rfl⟩ | ⟨y, u, rfl, rfl⟩
      · rw [key_rl] at h; exact SeqAt.EqAt.str_int x t j u _ _ _ _ h
      · rw [key_rr] at h; exact wpAny_eqBool_str h
  «strs» := fun k x t v h => by
    rcases keyIs_shape h with ⟨i, u, rfl, e⟩ | ⟨y, u, rfl, e⟩
    · exact nomatch e
    · injection e with e1 _
      subst e1
      cases v <;> rfl

end L2

namespace L2
open PySem PySem.Spec PyProof.Rows

inductive V where
  | non | bl (b : Bool) | int (i : Int) | str (x : Str) | byt (b : Array UInt8) | flt (b : UInt64) | ref (a : Addr) | ty (n : String)
  deriving DecidableEq

def RelV : V → Value → Prop
  | .non, u => u = Value.none
  | .bl b, u => u = Value.bool b
  | .int i, u => ∃ t, u = Value.int i t
  | .str x, u => ∃ t, u = Value.str x t
  | .byt b, u => ∃ t, u = Value.bytes b t
  | .flt b, u => ∃ t, u = Value.float b t
  | .ref a, u => u = Value.ref a
  | .ty n, u => u = Value.type n

abbrev Vals : List V → List Value → Prop := Paired RelV
theorem Vals.length {xs : List V} {us : List Value} (r : Vals xs us) : xs.length = us.length := Paired.length r
theorem Vals.get : ∀ {xs : List V} {us : List Value} {i : Nat} {x : V}, Vals xs us → xs[i]? = some x → ∃ u, us[i]? = some u ∧ RelV x u
  | _, _, _, _, .nil, e => by simp at e
  | _, _, 0, _, .cons r _, e => by simp at e; subst e; exact ⟨_, rfl, r⟩
  | _, _, i + 1, x, .cons _ t, e => by
    obtain ⟨u, h1, h2⟩ := Vals.get (i := i) (x := x) t (by simpa using e)
    exact ⟨u, by simpa using h1, h2⟩
theorem Vals.set {x : V} {u : Value} (r : RelV x u) : ∀ {xs : List V} {us : List Value} (i : Nat), Vals xs us → Vals (xs.set i x) (us.set i u)
  | _, _, _, .nil => .nil
  | _, _, 0, .cons _ t => .cons r t
  | _, _, i + 1, .cons q t => .cons q (Vals.set r i t)
theorem Vals.append : ∀ {xs ys : List V} {us ws : List Value}, Vals xs us → Vals ys ws → Vals (xs ++ ys) (us ++ ws)
  | _, _, _, _, .nil, s => s
  | _, _, _, _, .cons r t, s => .cons r (Vals.append t s)
theorem Vals.take : ∀ {xs : List V} {us : List Value} (n : Nat), Vals xs us → Vals (xs.take n) (us.take n)
  | _, _, 0, _ => .nil
  | _, _, _ + 1, .nil => .nil
  | _, _, n + 1, .cons r t => .cons r (Vals.take n t)
theorem Vals.drop : ∀ {xs : List V} {us : List Value} (n : Nat), Vals xs us → Vals (xs.drop n) (us.drop n)
  | _, _, 0, r => r
  | _, _, _ + 1, .nil => .nil
  | _, _, n + 1, .cons _ t => Vals.drop n t
def RelO : Option V → Option Value → Prop
  | some v, some u => RelV v u
  | none, none => True
  | _, _ => False
def KV {κ : Type} : List (κ × V) → List (κ × Value) → Prop := Paired fun (p : κ × V) (q : κ × Value) => p.1 = q.1 ∧ RelV p.2 q.2

def kV : Key → V
  | .inl i => .int i
  | .inr x => .str x

inductive HO where
    | lst (xs : List V)
    | tup (xs : List V)
    | dK (kvs : List (Key × V)) | dT (kvs : List (List Key × V))
    | set (S : Int → Bool) (n : Nat)
    | ins (C dx : Addr) (fs : List (Str × V))
    | own (x : Addr)
    | xd (fs : List (Str × V))
    | met (f x : Addr)
    | rng (lo hi : Int)
    | frz (o : Obj) (u : HO)
    | tbl (ps : Array Value)
    | ext (φ : Heap → Prop)

abbrev Hp := Addr → Option HO
def upd (H : Hp) (a : Addr) (o : HO) : Hp := fun b => if b = a then some o else H b
theorem upd_same {H : Hp} {a : Addr} {o : HO} : upd H a o a = some o := by unfold upd; rw [if_pos rfl]
theorem upd_ne {H : Hp} {a b : Addr} {o : HO} (h : b ≠ a) : upd H a o b = H b := by unfold upd; rw [if_neg h]
theorem upd_upd {H : Hp} {a : Addr} {o u : HO} : upd (upd H a o) a u = upd H a u := by
  funext b; unfold upd; split <;> rfl
theorem ne_of_none {H : Hp} {a b : Addr} {o : HO} (h : H a = some o) (h' : H b = none) : a ≠ b := by
  intro e; subst e; rw [h] at h'; cases h'

section
variable (P : Program) (w : World)
def ObjOk (H : Hp) (h : Heap) (a : Addr) : HO → Prop
  | .lst xs => xs.length ≤ sizeLine ∧ ∃ (its : List Value) (n : Nat), Vals xs its ∧ h.get? a = some { cls := .type "list", data := .seq its.toArray n }
  | .tup xs => xs.length ≤ sizeLine ∧ ∃ its : List Value, Vals xs its ∧ IsTup h a its.toArray
  | .dK kvs => kvs.length ≤ sizeLine ∧ (a == sysModules) = false ∧ ∃ vs, KV kvs vs ∧ h.DictOf (mixKind P w) a vs
  | .dT kvs => kvs.length ≤ sizeLine ∧ (a == sysModules) = false ∧ ∃ xs : List (List Key × Addr × Value),
      Paired (fun (p : List Key × V) (q : List Key × Addr × Value) => p.1 = q.1 ∧ H q.2.1 = some (.tup (p.1.map kV)) ∧ RelV p.2 q.2.2) kvs xs ∧
      ∃ o es ep, h.get? a = some o ∧ o.ExactDict ∧ o.data = .dict es ep ∧ es.toList = xs.map (entryOfKey (tupleKind (mixKind P w))) ∧ (xs.map (·.1)).Nodup
  | .set S n => h.SetOf (intKind P w) a S n
  | .ins C dx fs => H dx = some (.own a) ∧ fs.length ≤ 1000 ∧ dx ≠ a ∧ h.get? a = some (PySem.W.instObj C dx) ∧
      ∃ mA, h.Ns1 dx mA ∧ (∀ f, RelO (fs.lookup f) (mA f)) ∧ PySem.Within mA (fs.map (·.1))
  | .own _ => ∃ o, h.get? a = some o
  | .xd fs => ∃ mA, h.Ns1 a mA ∧ ∀ f, RelO (fs.lookup f) (mA f)
  | .rng lo hi => ∃ t u v, h.get? a = some { cls := .type "range", data := .fields #[.int lo t, .int hi u, .int 1 v] }
  | .frz o u => h.get? a = some o ∧ ObjOk H h a u
  | .tbl ps => h.get? a = some { cls := .none, data := .fields ps }
  | .met f x => h.get? a = some (PySem.W.methodObj (.ref f) (.ref x))
  | .ext φ => φ h ∧ (∃ o, h.get? a = some o) ∧ ∀ h1 h2 : Heap, φ h1 → (∀ o, h1.get? a = some o → h2.get? a = some o) → φ h2
def HOk (H : Hp) (h : Heap) : Prop := ∀ a o, H a = some o → ObjOk P w H h a o
end

section
variable {P : Program} {w : World} {H H' : Hp} {h h' : Heap} {a : Addr} {o : HO}
theorem ObjOk.lt (x : ObjOk P w H h a o) : a < h.objs.size := by
  cases o with
  | lst xs => obtain ⟨_, _, _, _, e⟩ := x; exact Heap.lt_size e
  | tup xs => obtain ⟨_, _, _, p⟩ := x; exact p.lt
  | dK kvs => obtain ⟨_, _, _, _, o, _, _, e, _⟩ := x; exact Heap.lt_size e
  | dT kvs => obtain ⟨_, _, _, _, o, _, _, e, _⟩ := x; exact Heap.lt_size e
  | set S n => obtain ⟨o, _, _, _, e, _⟩ := x; exact Heap.lt_size e
  | ins C dx fs => obtain ⟨_, _, _, e, _⟩ := x; exact Heap.lt_size e
  | own y => obtain ⟨_, e⟩ := x; exact Heap.lt_size e
  | xd fs => obtain ⟨_, ⟨_, _, _, e, _⟩, _⟩ := x; exact Heap.lt_size e
  | rng lo hi => obtain ⟨_, _, _, e⟩ := x; exact Heap.lt_size e
  | frz ob u => obtain ⟨e, _⟩ := x; exact Heap.lt_size e
  | tbl ps => exact Heap.lt_size (show h.get? a = some _ from x)
  | met f y => exact Heap.lt_size (show h.get? a = some _ from x)
  | ext φ => obtain ⟨_, ⟨_, e⟩, _⟩ := x; exact Heap.lt_size e
theorem Paired.mapP {α β : Type} {F G : α → β → Prop} : ∀ {l₁ : List α} {l₂ : List β}, Paired F l₁ l₂ → (∀ a b, F a b → G a b) → Paired G l₁ l₂
  | _, _, .nil, _ => .nil
  | _, _, .cons r t, f => .cons (f _ _ r) (Paired.mapP t f)
theorem ObjOk.stay (x : ObjOk P w H h a o) (k : ∀ b u, (b = a ∨ H b = some (.own a)) → h.get? b = some u → h'.get? b = some u)
    (ho : ∀ b, H b = some (.own a) → H' b = some (.own a)) (ht : ∀ b xs, H b = some (.tup xs) → H' b = some (.tup xs)) : ObjOk P w H' h' a o := by
  induction o with
  | lst xs => obtain ⟨z, its, n, r, e⟩ := x; exact ⟨z, its, n, r, k _ _ (.inl rfl) e⟩
  | tup xs => obtain ⟨z, its, r, ob, e, c⟩ := x; exact ⟨z, its, r, ob, k _ _ (.inl rfl) e, c⟩
  | dK kvs => obtain ⟨z, y, vs, r, ob, es, ep, e, c⟩ := x; exact ⟨z, y, vs, r, ob, es, ep, k _ _ (.inl rfl) e, c⟩
  | dT kvs =>
    obtain ⟨z, y, xs, r, ob, es, ep, e, c⟩ := x
    exact ⟨z, y, xs, Paired.mapP r fun p q z => ⟨z.1, ht _ _ z.2.1, z.2.2⟩, ob, es, ep, k _ _ (.inl rfl) e, c⟩
  | set S n => obtain ⟨ob, es, ep, t, e, c⟩ := x; exact ⟨ob, es, ep, t, k _ _ (.inl rfl) e, c⟩
  | ins C dx fs =>
    obtain ⟨d, z, ne, e, mA, ⟨od, es, ep, e2, c⟩, r⟩ := x
    exact ⟨ho _ d, z, ne, k _ _ (.inl rfl) e, mA, ⟨od, es, ep, k _ _ (.inr d) e2, c⟩, r⟩
  | own y => obtain ⟨ob, e⟩ := x; exact ⟨ob, k _ _ (.inl rfl) e⟩
  | xd fs => obtain ⟨mA, ⟨od, es, ep, e, c⟩, r⟩ := x; exact ⟨mA, ⟨od, es, ep, k _ _ (.inl rfl) e, c⟩, r⟩
  | rng lo hi => obtain ⟨t, u, v, e⟩ := x; exact ⟨t, u, v, k _ _ (.inl rfl) e⟩
  | frz ob u ih => obtain ⟨e, q⟩ := x; exact ⟨k _ _ (.inl rfl) e, ih q⟩
  | tbl ps =>
    have e : h.get? a = some { cls := .none, data := .fields ps } := x
    show h'.get? a = some { cls := .none, data := .fields ps }
    exact k a _ (.inl rfl) e
  | met f y =>
    have e : h.get? a = some (PySem.W.methodObj (.ref f) (.ref y)) := x
    show h'.get? a = some (PySem.W.methodObj (.ref f) (.ref y))
    exact k a _ (.inl rfl) e
  | ext φ => obtain ⟨p, ⟨o, e⟩, st⟩ := x; exact ⟨st _ _ p fun o q => k _ _ (.inl rfl) q, ⟨o, k _ _ (.inl rfl) e⟩, st⟩
theorem HOk.lt (x : HOk P w H h) (e : H a = some o) : a < h.objs.size := (x a o e).lt
theorem HOk.fresh (x : HOk P w H h) (e : h.objs.size ≤ a) : H a = none := by
  cases q : H a with
  | none => rfl
  | some u => exact absurd (Nat.lt_of_lt_of_le (x.lt q) e) (Nat.lt_irrefl _)
theorem HOk.kept (x : HOk P w H h) (k : ∀ b u, h.get? b = some u → h'.get? b = some u) : HOk P w H h' := fun a o e =>
  (x a o e).stay (fun b u _ q => k b u q) (fun _ q => q) fun _ _ q => q
theorem HOk.laid (x : HOk P w H h) (k : ∀ b u, h.get? b = some u → h'.get? b = some u) (hp : h.objs.size ≤ a) (new : ObjOk P w (upd H a o) h' a o) : HOk P w (upd H a o) h' := fun b u e => by
  have hn := x.fresh hp
  by_cases hb : b = a
  · subst hb; rw [upd_same] at e; cases e; exact new
  · rw [upd_ne hb] at e
    exact (x b u e).stay (fun c v _ q => k c v q) (fun c q => by rw [upd_ne (ne_of_none q hn)]; exact q) fun c xs q => by rw [upd_ne (ne_of_none q hn)]; exact q
end

def Rd (H : Hp) (a : Addr) (u : HO) : Prop := H a = some u ∨ ∃ o, H a = some (.frz o u)
theorem Rd.of {H : Hp} {a : Addr} {u : HO} (h : H a = some u) : Rd H a u := .inl h
theorem Rd.ok {P : Program} {w : World} {H : Hp} {h : Heap} {a : Addr} {u : HO} (r : Rd H a u) (x : HOk P w H h) : ObjOk P w H h a u := by
  rcases r with r | ⟨o, r⟩
  · exact x a u r
  · obtain ⟨_, q⟩ := x a _ r
    exact q
def Mut : Option HO → Prop
  | some (.lst _) => True
  | some (.dK _) => True
  | some (.dT _) => True
  | some (.set _ _) => True
  | some (.ins _ _ _) => True
  | some (.ext _) => True
  | _ => False
section
variable {P : Program} {w : World} {H : Hp} {h h' : Heap} {x e : Addr} {o' : HO}
theorem HOk.write (ok : HOk P w H h) (mu : Mut (H x)) (he : e = x ∨ H e = some (.own x)) (k : ∀ b u, b ≠ e → h.get? b = some u → h'.get? b = some u) (heo : ∃ u, h'.get? e = some u)
    (new : ObjOk P w (upd H x o') h' x o') : HOk P w (upd H x o') h' := fun b u q => by
  have nown : ∀ c y, H c = some (.own y) → c ≠ x := fun c y r z => by subst z; rw [r] at mu; exact mu
  have ntup : ∀ c xs, H c = some (.tup xs) → c ≠ x := fun c xs r z => by subst z; rw [r] at mu; exact mu
  by_cases hb : b = x
  · subst hb; rw [upd_same] at q; cases q; exact new
  · rw [upd_ne hb] at q
    by_cases hbe : b = e
    · have q' : H b = some (.own x) := by
        rcases he with z | z
        · exact absurd (hbe.trans z) hb
        · rw [hbe]; exact z
      rw [q] at q'; cases q'
      obtain ⟨v, hv⟩ := heo
      exact ⟨v, by rw [hbe]; exact hv⟩
    · refine (ok b u q).stay (fun c v hc r => k c v ?_ r) (fun c r => by rw [upd_ne (nown c b r)]; exact r) fun c xs r => by rw [upd_ne (ntup c xs r)]; exact r
      rcases hc with rfl | hc
      · exact hbe
      · rintro rfl
        rcases he with z | z
        · exact nown c b hc z
        · rw [hc] at z; cases z; exact hb rfl
end

structure Un (fs ex : List Addr) (H H' : Hp) (h h' : Heap) : Prop where
  keep : ∀ b o, h.get? b = some o → H b = none → b ∉ fs → b ∉ ex → h'.get? b = some o
  slot : ∀ b o, h.get? b = some o → H b = none → b ∈ fs → b ∉ ex → ∃ sl, h'.get? b = some { o with slots := sl }
  free : ∀ b o, h.get? b = some o → H b = none → b ∉ ex → H' b = none
  there : ∀ b o, h.get? b = some o → b ∉ ex → ∃ o', h'.get? b = some o'
  tups : ∀ b xs, H b = some (.tup xs) → H' b = some (.tup xs)
  frzs : ∀ b o u, H b = some (.frz o u) → H' b = some (.frz o u)
  tbls : ∀ b ps, H b = some (.tbl ps) → ∃ more, H' b = some (.tbl (ps ++ more))
section
variable {fs fs' ex ex' : List Addr} {H H1 H2 : Hp} {h h1 h2 h' : Heap} {a x e : Addr} {o : HO}
theorem Un.any (u : Un fs ex H H1 h h1) {b : Addr} {ob : Obj} (q : h.get? b = some ob) (n : H b = none) (hx : b ∉ ex) : ∃ sl, h1.get? b = some { ob with slots := sl } := by
  by_cases hb : b ∈ fs
  · exact u.slot b ob q n hb hx
  · exact ⟨ob.slots, u.keep b ob q n hb hx⟩
theorem Un.kept (k : ∀ b u, h.get? b = some u → h'.get? b = some u) : Un fs ex H H h h' :=
  ⟨fun b ob q _ _ _ => k b ob q, fun b ob q _ _ _ => ⟨ob.slots, k b ob q⟩, fun _ _ _ n _ => n, fun b ob q _ => ⟨ob, k b ob q⟩, fun _ _ q => q, fun _ _ _ q => q, fun _ ps q => ⟨#[], by rw [q]; simp⟩⟩
theorem Un.refl : Un fs ex H H h h := Un.kept fun _ _ q => q
theorem Un.laid (k : ∀ b u, h.get? b = some u → h'.get? b = some u) (hp : h.objs.size ≤ a) (hn : H a = none) : Un fs ex H (upd H a o) h h' where
  keep := fun b u q _ _ _ => k b u q
  slot := fun b u q _ _ _ => ⟨u.slots, k b u q⟩
  free := fun b u q n _ => by rw [upd_ne (Nat.ne_of_lt (Nat.lt_of_lt_of_le (Heap.lt_size q) hp))]; exact n
  there := fun b u q _ => ⟨u, k b u q⟩
  tups := fun b xs q => by rw [upd_ne (ne_of_none q hn)]; exact q
  frzs := fun b u xs q => by rw [upd_ne (ne_of_none q hn)]; exact q
  tbls := fun b ps q => ⟨#[], by rw [upd_ne (ne_of_none q hn), q]; simp⟩
theorem Un.write (mu : Mut (H x)) (he : e = x ∨ H e = some (.own x)) (k : ∀ b u, b ≠ e → h.get? b = some u → h'.get? b = some u) (heo : ∃ u, h'.get? e = some u) : Un fs ex H (upd H x o) h h' := by
  have hx : ∀ b, H b = none → b ≠ x := fun b n z => by subst z; rw [n] at mu; exact mu
  have hb : ∀ b, H b = none → b ≠ e := fun b n z => by
    subst z
    rcases he with r | r
    · exact hx b n r
    · rw [n] at r; cases r
  have hm : ∀ b u, H b = some u → ¬ Mut (some u) → b ≠ x := fun b u q nm z => by subst z; rw [q] at mu; exact nm mu
  refine ⟨fun b u q n _ _ => k b u (hb b n) q, fun b u q n _ _ => ⟨u.slots, k b u (hb b n) q⟩, fun b u q n _ => by rw [upd_ne (hx b n)]; exact n, fun b u q _ => ?_,
    fun b xs q => by rw [upd_ne (hm b _ q fun z => z)]; exact q, fun b u xs q => by rw [upd_ne (hm b _ q fun z => z)]; exact q, fun b ps q => ⟨#[], by rw [upd_ne (hm b _ q fun z => z), q]; simp⟩⟩
  by_cases hbe : b = e
  · subst hbe; exact heo
  · exact ⟨u, k b u hbe q⟩
end

def trk (h : Heap) (H : Hp) : List Addr := (List.range h.objs.size).filter fun a => (H a).isSome
def hidT (h : Heap) (H : Hp) : Heap := PySem.W.hideAll h (trk h H)
theorem hidT_size (h : Heap) (H : Hp) : (hidT h H).objs.size = h.objs.size := PySem.W.hideAll_size _ _
theorem hidT_get {h : Heap} {H : Hp} {b : Addr} {o : Obj} (e : h.get? b = some o) (n : H b = none) : (hidT h H).get? b = some o :=
  PySem.W.hideAll_get _ e fun hm => by
    have q : (H b).isSome = true := (List.mem_filter.mp hm).2
    rw [n] at q; simp at q
theorem of_hidT {h : Heap} {H : Hp} {b : Addr} {o : Obj} (e : (hidT h H).get? b = some o) : h.get? b = some o ∧ H b = none := by
  have e' : h.get? b = some o := PySem.W.of_hideAll (trk h H) e
  refine ⟨e', ?_⟩
  cases q : H b with
  | none => rfl
  | some x =>
    have hm : b ∈ trk h H := List.mem_filter.mpr ⟨List.mem_range.mpr (Heap.lt_size e'), by simp [q]⟩
    have z : (hidT h H).get? b = none := PySem.W.hideAll_none (trk h H) hm
    rw [z] at e; cases e

def allNews (g h : Heap) (L : Addr) : List (Addr × Obj) := (List.range h.objs.size).filterMap fun a => if a = L ∨ (g.get? a).isSome = true then none else (h.get? a).map fun o => (a, o)
def rest (g h : Heap) (L d : Addr) : List (Addr × Obj) := (allNews g h L).filter fun p => decide (p.1 ≠ d)
end L2

namespace L2
open PySem PySem.Spec PyProof.Rows

structure Mod (K : PySem.W.Frag) (mg : Str → Option Value) (base : Heap) : Prop where
  kin : K.In base
  glob : base.Ns mainGlobals mg
  blt : ∃ mb, base.Ns builtinsNs mb ∧ ∀ x : Str, x ≠ "__name__" → mb x = bootBuiltins x
  nolimit : base.NoLimit

structure Cx where
  prog : Program
  w : World
  K : PySem.W.Frag
  mg : Str → Option Value
  base : Heap
  A : Around
  N : List Str
  s₀ : Shared
  H₀ : Hp
  env : Env
  outer : List Env
  stack : List Env
  ex : List Addr
  fn : Str → Bool
  calm : Bool
  pn : List (Addr × Obj)
  xe : Value → Shared → Prop
def frs (l : List Env) : List Addr := l.filterMap (·.frame)
abbrev Cx.fs (X : Cx) : List Addr := frs X.outer

def Vis (sc : Scope) (x : Str) : Prop := sc.names.lookup x = some .local ∨ sc.names.lookup x = some .cell ∨ sc.names.lookup x = some .free
def Loc (sc : Scope) (x : Str) : Prop := sc.names.lookup x = some .local ∨ sc.names.lookup x = some .cell
def Look (env : Env) (h : Heap) (m : Str → Option Value) (x : Str) (u : Value) : Prop :=
  (env.kindOf x = some .local ∧ m x = some u) ∨ ((env.kindOf x = some .cell ∨ env.kindOf x = some .free) ∧ ∃ c, env.cells.lookup x = some c ∧ h.IsCell c (some u))

structure Cx.Ok (X : Cx) : Prop where
  mod : Mod X.K X.mg X.base
  kind : X.env.scope.kind = .function
  glob : X.env.globals = mainGlobals
  blt : X.env.builtins = builtinsNs
  above : X.s₀.heap.objs.size ≤ X.env.locals
  inj : ∀ x y c, X.env.cells.lookup x = some c → X.env.cells.lookup y = some c → x = y
  has : ∀ x, (X.env.kindOf x = some .cell ∨ X.env.kindOf x = some .free) → ∃ c, X.env.cells.lookup x = some c
  cab : ∀ x c, X.fn x = true → X.env.cells.lookup x = some c → X.s₀.heap.objs.size ≤ c
  hd : X.calm = true → X.A.handled = none
  frames : X.A.frames = some X.stack
  stk : X.stack = X.outer ∨ (X.stack = X.env :: X.outer ∧ X.env.frame = some X.env.locals)
  exf : ∀ b ∈ X.ex, b ≠ X.env.locals ∧ ∀ x c, X.env.cells.lookup x = some c → c ≠ b
  bs : ∀ b o, X.base.get? b = some o → X.s₀.heap.get? b = some o ∧ X.H₀ b = none
  bsz : X.base.objs.size ≤ X.s₀.heap.objs.size
  noex : ∀ b o, X.base.get? b = some o → b ∉ X.ex
  exfs : ∀ b ∈ X.ex, b ∉ X.fs
  funs : X.s₀.heap.FunFrames X.base X.outer
  frf : ∀ b ∈ X.fs, X.H₀ b = none

structure Inv (X : Cx) (pins : List (Addr × Obj)) (σ : List (Option V)) (H : Hp) (s : Shared) : Prop where
  ok : X.Ok
  os : s.os = X.s₀.os
  bare : AllBare s.gens
  base : Un X.fs X.ex X.H₀ H X.s₀.heap s.heap
  loc : ∃ m, s.heap.Ns X.env.locals m ∧ ∀ (i : Nat) (x : Str) (v : V), X.N[i]? = some x → σ[i]? = some (some v) → Vis X.env.scope x → ∃ u, RelV v u ∧ Look X.env s.heap m x u
  cell : ∀ x c, X.env.cells.lookup x = some c → ∃ v, s.heap.IsCell c v
  free : H X.env.locals = none
  freeC : ∀ x c, X.env.cells.lookup x = some c → H c = none
  pin : ∀ p ∈ X.pn ++ pins, s.heap.get? p.1 = some p.2 ∧ H p.1 = none ∧ p.1 ≠ X.env.locals ∧ p.1 ∉ X.fs ∧ ∀ v, p.2.data ≠ .cell v
  hok : HOk X.prog X.w H s.heap
  len : σ.length = X.N.length

section
variable {X : Cx} {pins : List (Addr × Obj)} {σ : List (Option V)} {H H' : Hp} {s : Shared} {h' : Heap}

theorem Cx.Ok.nofr (ok : X.Ok) {b : Addr} {o : Obj} (e : X.base.get? b = some o) : b ∉ X.fs := fun hb => by
  have := (ok.funs.mem hb).1
  rw [e] at this; cases this
theorem Inv.bs (I : Inv X pins σ H s) : ∀ b o, X.base.get? b = some o → s.heap.get? b = some o ∧ H b = none := fun b o e =>
  ⟨I.base.keep b o (I.ok.bs b o e).1 (I.ok.bs b o e).2 (I.ok.nofr e) (I.ok.noex b o e), I.base.free b o (I.ok.bs b o e).1 (I.ok.bs b o e).2 (I.ok.noex b o e)⟩
theorem Inv.bk (I : Inv X pins σ H s) : ∀ b o, X.base.get? b = some o → s.heap.get? b = some o := fun b o e => (I.bs b o e).1
theorem Inv.mod (I : Inv X pins σ H s) : Mod X.K X.mg X.base := I.ok.mod
theorem Inv.kIn (I : Inv X pins σ H s) : X.K.In s.heap := I.ok.mod.kin.keeps I.bk
theorem Inv.fr (I : Inv X pins σ H s) : ∃ m, Fr X.base X.env.locals s.heap m :=
  let ⟨m, hn, _⟩ := I.loc
  ⟨m, hn, I.bk, Nat.le_trans I.ok.bsz I.ok.above⟩
theorem Inv.lt (I : Inv X pins σ H s) : X.env.locals < s.heap.objs.size := let ⟨_, hn, _⟩ := I.loc; hn.lt
theorem Inv.sz (I : Inv X pins σ H s) : X.s₀.heap.objs.size ≤ s.heap.objs.size := Nat.le_trans I.ok.above (Nat.le_of_lt I.lt)
theorem Inv.nofs (I : Inv X pins σ H s) {a : Addr} (h : s.heap.objs.size ≤ a) : a ∉ X.fs := fun hb => by
  obtain ⟨_, o, ho, _⟩ := I.ok.funs.mem hb
  exact absurd (Nat.lt_of_lt_of_le (Heap.lt_size ho) (Nat.le_trans I.sz h)) (Nat.lt_irrefl _)
theorem Inv.cne (I : Inv X pins σ H s) : ∀ x c, X.env.cells.lookup x = some c → c ≠ X.env.locals := fun x c e z => by
  obtain ⟨v, o, ho, hd⟩ := I.cell x c e
  obtain ⟨m, ⟨o', es, ep, ho', hd', _⟩, _⟩ := I.loc
  rw [z, ho'] at ho; cases ho; rw [hd'] at hd; cases hd
theorem Inv.funs (I : Inv X pins σ H s) : s.heap.FunFrames X.base X.outer := by
  have all : ∀ (l : List Env), (∀ b ∈ frs l, b ∈ X.fs) → X.s₀.heap.FunFrames X.base l → s.heap.FunFrames X.base l := by
    intro l
    induction l with
    | nil => intro _ _; trivial
    | cons env r ih =>
      intro hs hl
      obtain ⟨hk, ⟨L, o, hf, hn, ho, hd⟩, hr⟩ := hl
      have hL : L ∈ X.fs := hs L (by unfold frs; rw [List.filterMap_cons, hf]; exact List.mem_cons_self)
      obtain ⟨sl, e⟩ := I.base.slot L o ho (I.ok.frf L hL) hL fun z => I.ok.exfs L z hL
      exact ⟨hk, ⟨L, _, hf, hn, e, hd⟩, ih (fun b hb => hs b (by unfold frs; rw [List.filterMap_cons, hf]; exact List.mem_cons_of_mem _ hb)) hr⟩
  exact all X.outer (fun _ hb => hb) I.ok.funs

theorem Inv.stack (I : Inv X pins σ H s) : s.heap.FunFrames X.base X.stack := by
  rcases I.ok.stk with e | ⟨e, hf⟩
  · rw [e]; exact I.funs
  · rw [e]
    obtain ⟨m, hn, _⟩ := I.loc
    refine .cons (by rw [I.ok.kind]; decide) hf hn ?_ I.funs
    exact Heap.get?_none_of_le (Nat.le_trans I.ok.bsz I.ok.above)
theorem Inv.stkSub (I : Inv X pins σ H s) : ∀ b ∈ frs X.stack, b ∈ X.env.locals :: X.fs := fun b hb => by
  rcases I.ok.stk with e | ⟨e, hf⟩
  · rw [e] at hb; exact List.mem_cons_of_mem _ hb
  · rw [e] at hb
    unfold frs at hb
    rw [List.filterMap_cons, hf] at hb
    exact hb
theorem Inv.stkFree (I : Inv X pins σ H s) : ∀ b ∈ frs X.stack, H b = none := fun b hb => by
  rcases List.mem_cons.mp (I.stkSub b hb) with e | hb
  · rw [e]; exact I.free
  · obtain ⟨_, o, ho, _⟩ := I.ok.funs.mem hb
    exact I.base.free b o ho (I.ok.frf b hb) fun z => I.ok.exfs b z hb

theorem Inv.step {g' : Array GenState} {t' : Nat} {d' : Drawn} {ch : List Addr} (I : Inv X pins σ H s)
    (hch : ∀ b ∈ ch, (b ∈ X.ex ∨ X.s₀.heap.objs.size ≤ b) ∧ b ≠ X.env.locals ∧ (∀ x c, X.env.cells.lookup x = some c → c ≠ b) ∧ ∀ p ∈ X.pn ++ pins, p.1 ≠ b)
    (keep : ∀ b o, b ≠ X.env.locals → b ∉ X.fs → b ∉ ch → s.heap.get? b = some o → H b = none → h'.get? b = some o)
    (slot : ∀ b o, b ≠ X.env.locals → b ∈ X.fs → b ∉ ch → s.heap.get? b = some o → H b = none → ∃ sl, h'.get? b = some { o with slots := sl }) (free : ∀ b o, b ∉ ch → s.heap.get? b = some o → H b = none → H' b = none)
    (there : ∀ b o, b ∉ ch → s.heap.get? b = some o → ∃ o', h'.get? b = some o')
    (tups : ∀ b xs, H b = some (.tup xs) → H' b = some (.tup xs)) (frzs : ∀ b o u, H b = some (.frz o u) → H' b = some (.frz o u)) (tbls : ∀ b ps, H b = some (.tbl ps) → ∃ more, H' b = some (.tbl (ps ++ more)))
    (ns : ∀ m, s.heap.Ns X.env.locals m → h'.Ns X.env.locals m) (hok : HOk X.prog X.w H' h') (hg : AllBare g') :
    Inv X pins σ H' { s with heap := h', gens := g', drawn := d', toks := t' } := by
  have neL : ∀ b o, X.s₀.heap.get? b = some o → b ≠ X.env.locals := fun b o e => Nat.ne_of_lt (Nat.lt_of_lt_of_le (Heap.lt_size e) I.ok.above)
  have neC : ∀ b o, X.s₀.heap.get? b = some o → b ∉ X.ex → b ∉ ch := fun b o e hx hb => by
    rcases (hch b hb).1 with z | z
    · exact hx z
    · exact absurd (Nat.lt_of_lt_of_le (Heap.lt_size e) z) (Nat.lt_irrefl _)
  have cellK : ∀ x c, X.env.cells.lookup x = some c → ∀ v, s.heap.IsCell c v → h'.IsCell c v := fun x c e v ⟨o, ho, hd⟩ => by
    have nch : c ∉ ch := fun z => (hch c z).2.2.1 x c e rfl
    by_cases hc : c ∈ X.fs
    · obtain ⟨sl, q⟩ := slot c o (I.cne x c e) hc nch ho (I.freeC x c e)
      exact ⟨_, q, hd⟩
    · exact ⟨o, keep c o (I.cne x c e) hc nch ho (I.freeC x c e), hd⟩
  refine ⟨I.ok, I.os, hg, ⟨fun b o e n hb hx => ?_, fun b o e n hb hx => ?_, fun b o e n hx => ?_, fun b o e hx => ?_, fun b xs e => tups b xs (I.base.tups b xs e), fun b o xs e => frzs b o xs (I.base.frzs b o xs e), fun b ps e => ?_⟩, ?_, fun x c e => ?_, ?_, fun x c e => ?_, fun p hp => ?_, hok, I.len⟩
  · exact keep b o (neL b o e) hb (neC b o e hx) (I.base.keep b o e n hb hx) (I.base.free b o e n hx)
  · obtain ⟨sl, e1⟩ := I.base.slot b o e n hb hx
    obtain ⟨sl', e2⟩ := slot b _ (neL b o e) hb (neC b o e hx) e1 (I.base.free b o e n hx)
    exact ⟨sl', e2⟩
  · obtain ⟨o', e1⟩ := I.base.there b o e hx
    exact free b o' (neC b o e hx) e1 (I.base.free b o e n hx)
  · obtain ⟨o', e1⟩ := I.base.there b o e hx
    exact there b o' (neC b o e hx) e1
  · obtain ⟨m1, e1⟩ := I.base.tbls b ps e
    obtain ⟨m2, e2⟩ := tbls b _ e1
    exact ⟨m1 ++ m2, by rw [e2, Array.append_assoc]⟩
  · obtain ⟨m, hn, hl⟩ := I.loc
    refine ⟨m, ns m hn, fun i x v e1 e2 e3 => ?_⟩
    obtain ⟨u, r, l⟩ := hl i x v e1 e2 e3
    refine ⟨u, r, ?_⟩
    rcases l with l | ⟨k, c, e, z⟩
    · exact .inl l
    · exact .inr ⟨k, c, e, cellK x c e _ z⟩
  · obtain ⟨v, z⟩ := I.cell x c e
    exact ⟨v, cellK x c e v z⟩
  · obtain ⟨m, ⟨o, _, _, ho, _⟩, _⟩ := I.loc
    exact free _ o (fun z => (hch _ z).2.1 rfl) ho I.free
  · obtain ⟨v, o, ho, hd⟩ := I.cell x c e
    exact free c o (fun z => (hch c z).2.2.1 x c e rfl) ho (I.freeC x c e)
  · obtain ⟨e, n, ne, nf, d⟩ := I.pin p hp
    have nch : p.1 ∉ ch := fun z => (hch p.1 z).2.2.2 p hp rfl
    exact ⟨keep p.1 p.2 ne nf nch e n, free p.1 p.2 nch e n, ne, nf, d⟩
theorem Inv.un {t' : Nat} (I : Inv X pins σ H s) (u : Un X.fs [] H H' s.heap h') (hok : HOk X.prog X.w H' h') : Inv X pins σ H' { s with heap := h', toks := t' } := by
  obtain ⟨m, ⟨o, es, ep, ho, r⟩, _⟩ := id I.loc
  obtain ⟨sl, hL⟩ := u.any ho I.free (by simp)
  exact I.step (g' := s.gens) (d' := s.drawn) (ch := []) (fun _ z => nomatch z) (fun b o _ hb _ e n => u.keep b o e n hb (by simp)) (fun b o _ hb _ e n => u.slot b o e n hb (by simp)) (fun b o _ e n => u.free b o e n (by simp)) (fun b o _ e => u.there b o e (by simp)) u.tups u.frzs u.tbls (fun m' hm => by
    obtain ⟨o', es', ep', ho', r'⟩ := hm
    rw [ho] at ho'; cases ho'
    exact ⟨_, es', ep', hL, r'⟩) hok I.bare
theorem Inv.call {g' : Array GenState} {t' : Nat} {d' : Drawn} {ch : List Addr} (I : Inv X pins σ H s) (u : Un (frs X.stack) ch H H' s.heap h') (hok : HOk X.prog X.w H' h') (hg : AllBare g')
    (hch : ∀ b ∈ ch, (b ∈ X.ex ∨ X.s₀.heap.objs.size ≤ b) ∧ b ≠ X.env.locals ∧ (∀ x c, X.env.cells.lookup x = some c → c ≠ b) ∧ ∀ p ∈ X.pn ++ pins, p.1 ≠ b) :
    Inv X pins σ H' { s with heap := h', gens := g', drawn := d', toks := t' } := by
  obtain ⟨m, ⟨o, es, ep, ho, r⟩, _⟩ := id I.loc
  obtain ⟨sl, hL⟩ := u.any ho I.free fun z => (hch _ z).2.1 rfl
  exact I.step (ch := ch) hch (fun b o hL hb hc e n => u.keep b o e n (fun z => (List.mem_cons.mp (I.stkSub b z)).elim hL hb) hc) (fun b o _ _ hc e n => u.any e n hc) (fun b o hc e n => u.free b o e n hc) (fun b o hc e => u.there b o e hc) u.tups u.frzs u.tbls (fun m' hm => by
    obtain ⟨o', es', ep', ho', r'⟩ := hm
    rw [ho] at ho'; cases ho'
    exact ⟨_, es', ep', hL, r'⟩) hok hg
theorem Inv.turned {t' : Nat} {it : Addr} (I : Inv X pins σ H s) (k : ∀ b o, b ≠ it → s.heap.get? b = some o → h'.get? b = some o) (hn : H it = none) (hL : it ≠ X.env.locals)
    (h1 : it ∈ X.ex ∨ X.s₀.heap.objs.size ≤ it) (h2 : ∀ x c, X.env.cells.lookup x = some c → c ≠ it) (h3 : ∀ p ∈ X.pn ++ pins, p.1 ≠ it) : Inv X pins σ H { s with heap := h', toks := t' } := by
  have nit : ∀ b u, H b = some u → b ≠ it := fun b u e z => by rw [z, hn] at e; cases e
  refine I.step (g' := s.gens) (d' := s.drawn) (ch := [it]) (fun b hb => ?_) (fun b o _ _ hc e _ => k b o (fun z => hc (by simp [z])) e) (fun b o _ _ hc e _ => ⟨o.slots, k b o (fun z => hc (by simp [z])) e⟩) (fun _ _ _ _ n => n)
    (fun b o hc e => ⟨o, k b o (fun z => hc (by simp [z])) e⟩) (fun _ _ e => e) (fun _ _ _ e => e) (fun b ps e => ⟨#[], by rw [e]; simp⟩) (fun m hm => ?_) (fun b u e => ?_) I.bare
  · have e : b = it := by simpa using hb
    subst e
    exact ⟨h1, hL, h2, h3⟩
  · obtain ⟨o, es, ep, ho, r⟩ := hm
    exact ⟨o, es, ep, k _ o (Ne.symm hL) ho, r⟩
  · refine (I.hok b u e).stay (fun c v hc q => k c v ?_ q) (fun _ q => q) fun _ _ q => q
    rcases hc with z | z
    · rw [z]; exact nit b u e
    · exact nit c _ z
theorem Inv.tok (I : Inv X pins σ H s) (t : Nat) : Inv X pins σ H { s with toks := t } := I.un (h' := s.heap) (t' := t) Un.refl I.hok
theorem Inv.kept {t' : Nat} (I : Inv X pins σ H s) (k : ∀ b u, s.heap.get? b = some u → h'.get? b = some u) : Inv X pins σ H { s with heap := h', toks := t' } := I.un (Un.kept k) (I.hok.kept k)
theorem Inv.laid {a : Addr} {o : HO} {t' : Nat} (I : Inv X pins σ H s) (k : ∀ b u, s.heap.get? b = some u → h'.get? b = some u) (hp : s.heap.objs.size ≤ a) (new : ObjOk X.prog X.w (upd H a o) h' a o) :
    Inv X pins σ (upd H a o) { s with heap := h', toks := t' } := I.un (Un.laid k hp (I.hok.fresh hp)) (I.hok.laid k hp new)
theorem Inv.write {x e : Addr} {o : HO} {t' : Nat} (I : Inv X pins σ H s) (mu : Mut (H x)) (he : e = x ∨ H e = some (.own x)) (k : ∀ b u, b ≠ e → s.heap.get? b = some u → h'.get? b = some u) (heo : ∃ u, h'.get? e = some u)
    (new : ObjOk X.prog X.w (upd H x o) h' x o) : Inv X pins σ (upd H x o) { s with heap := h', toks := t' } := I.un (Un.write mu he k heo) (I.hok.write mu he k heo new)
theorem Inv.weak {σ' : List (Option V)} (I : Inv X pins σ H s) (hl : σ'.length = σ.length) (w : ∀ (i : Nat) v, σ'[i]? = some (some v) → σ[i]? = some (some v)) : Inv X pins σ' H s :=
  ⟨I.ok, I.os, I.bare, I.base, let ⟨m, hn, hl'⟩ := I.loc; ⟨m, hn, fun i x v e1 e2 e3 => hl' i x v e1 (w i v e2) e3⟩, I.cell, I.free, I.freeC, I.pin, I.hok, hl.trans I.len⟩
theorem Inv.pins_of {pins' : List (Addr × Obj)} (I : Inv X pins σ H s) (h : ∀ p ∈ pins', s.heap.get? p.1 = some p.2 ∧ H p.1 = none ∧ p.1 ≠ X.env.locals ∧ p.1 ∉ X.fs ∧ ∀ v, p.2.data ≠ .cell v) : Inv X pins' σ H s :=
  ⟨I.ok, I.os, I.bare, I.base, I.loc, I.cell, I.free, I.freeC, fun p hp => (List.mem_append.mp hp).elim (fun z => I.pin p (List.mem_append_left _ z)) (h p), I.hok, I.len⟩

theorem nodup_ix {N : List Str} (hN : N.Nodup) {i j : Nat} {x : Str} (a : N[i]? = some x) (b : N[j]? = some x) : i = j := by
  obtain ⟨h1, e1⟩ := List.getElem?_eq_some_iff.mp a
  obtain ⟨h2, e2⟩ := List.getElem?_eq_some_iff.mp b
  exact (List.getElem_inj hN).mp (e1.trans e2.symm)

theorem store_ok2 {M : Model} {A : Around} {E : Value → Shared → Prop} {i : Nat} {x : Str} {v : V} {u : Value} {Q : Unit → Shared → Prop} (I : Inv X pins σ H s) (hN : X.N.Nodup) (hi : X.N[i]? = some x) (hx : Loc X.env.scope x) (r : RelV v u)
    (h : ∀ s', Inv X pins (σ.set i (some v)) H s' → (∃ a, Heap.SameBut a s.heap s'.heap ∧ (a = X.env.locals ∨ X.env.cells.lookup x = some a)) → Q () s') (hf : X.fn x = true ∨ X.env.scope.names.lookup x = some .local := by first | exact .inl rfl | exact .inr rfl | assumption) : wpAny M A (storeName X.env x u) Q E s := by
  obtain ⟨m, hn, hl⟩ := id I.loc
  have hcls : (X.env.scope.kind == .class || (X.env.scope.kind == .module && X.env.locals != X.env.globals)) = false := by rw [I.ok.kind]; rfl
  have hiσ : i < σ.length := by rw [I.len]; exact (List.getElem?_eq_some_iff.mp hi).1
  have cne := I.cne
  have tracked : ∀ {a : Addr} {h' : Heap}, (∃ o, s.heap.get? a = some o ∧ H a = none) → Heap.SameBut a s.heap h' → HOk X.prog X.w H h' := fun {a h'} ha hs b ob e => by
    obtain ⟨_, _, hfree⟩ := ha
    refine (I.hok b ob e).stay (fun c w' hc q => (hs.2 c ?_).trans q) (fun _ q => q) fun _ _ q => q
    rintro rfl
    rcases hc with rfl | hc
    · rw [hfree] at e; cases e
    · rw [hfree] at hc; cases hc
  rcases hx with hk | hk
  · refine wpAny_storeName_local hk hn (fun h' hn' hs => ?_) hcls
    obtain ⟨oL, _, _, hoL, _⟩ := id hn
    refine h _ ⟨I.ok, I.os, I.bare, ⟨fun b o e n hb hx => ?_, fun b o e n hb hx => ?_, I.base.free, fun b o e hx => ?_, I.base.tups, I.base.frzs, I.base.tbls⟩, ⟨_, hn', fun j y v' e1 e2 e3 => ?_⟩, fun y c e => ?_, I.free, I.freeC, fun p hp => ?_, tracked ⟨oL, hoL, I.free⟩ hs, by simpa using I.len⟩ ⟨_, hs, .inl rfl⟩
    · exact (hs.2 b (Nat.ne_of_lt (Nat.lt_of_lt_of_le (Heap.lt_size e) I.ok.above))).trans (I.base.keep b o e n hb hx)
    · obtain ⟨sl, e1⟩ := I.base.slot b o e n hb hx
      exact ⟨sl, (hs.2 b (Nat.ne_of_lt (Nat.lt_of_lt_of_le (Heap.lt_size e) I.ok.above))).trans e1⟩
    · obtain ⟨o', e1⟩ := I.base.there b o e hx
      exact ⟨o', (hs.2 b (Nat.ne_of_lt (Nat.lt_of_lt_of_le (Heap.lt_size e) I.ok.above))).trans e1⟩
    · by_cases hj : j = i
      · subst hj
        rw [hi] at e1; cases e1
        rw [List.getElem?_set_self hiσ] at e2
        cases e2
        exact ⟨u, r, .inl ⟨hk, by simp⟩⟩
      · rw [List.getElem?_set_ne (Ne.symm hj)] at e2
        obtain ⟨u', r', q⟩ := hl j y v' e1 e2 e3
        refine ⟨u', r', ?_⟩
        rcases q with ⟨k, e⟩ | ⟨k, c, e, z⟩
        · refine .inl ⟨k, ?_⟩
          have : y ≠ x := fun e => hj (nodup_ix hN e1 (e ▸ hi))
          simp [this, e]
        · exact .inr ⟨k, c, e, z.sameBut hs (cne y c e)⟩
    · obtain ⟨w', z⟩ := I.cell y c e
      exact ⟨w', z.sameBut hs (cne y c e)⟩
    · obtain ⟨e, n, ne, nf, d⟩ := I.pin p hp
      exact ⟨(hs.2 p.1 ne).trans e, n, ne, nf, d⟩
  · have hfn : X.fn x = true := by
      rcases hf with z | z
      · exact z
      · rw [z] at hk; cases hk
    obtain ⟨c, hc⟩ := I.ok.has x (.inl hk)
    obtain ⟨w', z⟩ := I.cell x c hc
    refine wpAny_storeName_cell I.ok.kind hk hc z (fun h' hc' hs => ?_)
    obtain ⟨oc, hoc, hocd⟩ := id z
    refine h { s with heap := h' } ⟨I.ok, I.os, I.bare, ⟨fun b o e n hb hx => ?_, fun b o e n hb hx => ?_, I.base.free, fun b o e hx => ?_, I.base.tups, I.base.frzs, I.base.tbls⟩, ⟨m, hn.sameBut hs (Ne.symm (cne x c hc)), fun j y v' e1 e2 e3 => ?_⟩, fun y c' e => ?_, I.free, I.freeC, fun p hp => ?_, tracked ⟨oc, hoc, I.freeC x c hc⟩ hs, by simpa using I.len⟩ ⟨c, hs, .inr hc⟩
    · exact (hs.2 b (Nat.ne_of_lt (Nat.lt_of_lt_of_le (Heap.lt_size e) (I.ok.cab x c hfn hc)))).trans (I.base.keep b o e n hb hx)
    · obtain ⟨sl, e1⟩ := I.base.slot b o e n hb hx
      exact ⟨sl, (hs.2 b (Nat.ne_of_lt (Nat.lt_of_lt_of_le (Heap.lt_size e) (I.ok.cab x c hfn hc)))).trans e1⟩
    · obtain ⟨o', e1⟩ := I.base.there b o e hx
      exact ⟨o', (hs.2 b (Nat.ne_of_lt (Nat.lt_of_lt_of_le (Heap.lt_size e) (I.ok.cab x c hfn hc)))).trans e1⟩
    · by_cases hj : j = i
      · subst hj
        rw [hi] at e1; cases e1
        rw [List.getElem?_set_self hiσ] at e2
        cases e2
        exact ⟨u, r, .inr ⟨.inl hk, c, hc, hc'⟩⟩
      · rw [List.getElem?_set_ne (Ne.symm hj)] at e2
        obtain ⟨u', r', q⟩ := hl j y v' e1 e2 e3
        refine ⟨u', r', ?_⟩
        rcases q with q | ⟨k, c', e, z'⟩
        · exact .inl q
        · refine .inr ⟨k, c', e, z'.sameBut hs ?_⟩
          rintro rfl
          exact hj (nodup_ix hN e1 (I.ok.inj _ _ _ e hc ▸ hi))
    · by_cases hcc : c' = c
      · subst hcc; exact ⟨_, hc'⟩
      · obtain ⟨w2, z2⟩ := I.cell y c' e
        exact ⟨w2, z2.sameBut hs hcc⟩
    · obtain ⟨e, n, ne, nf, d⟩ := I.pin p hp
      refine ⟨(hs.2 p.1 ?_).trans e, n, ne, nf, d⟩
      intro q
      rw [q, hoc] at e
      have q' : oc = p.2 := Option.some.inj e
      exact d w' (by rw [← q']; exact hocd)
theorem store_ok {M : Model} {A : Around} {E : Value → Shared → Prop} {i : Nat} {x : Str} {v : V} {u : Value} {Q : Unit → Shared → Prop} (I : Inv X pins σ H s) (hN : X.N.Nodup) (hi : X.N[i]? = some x) (hx : Loc X.env.scope x) (r : RelV v u)
    (h : ∀ s', Inv X pins (σ.set i (some v)) H s' → Q () s') (hf : X.fn x = true ∨ X.env.scope.names.lookup x = some .local := by first | exact .inl rfl | exact .inr rfl | assumption) : wpAny M A (storeName X.env x u) Q E s :=
  store_ok2 I hN hi hx r (fun s' I' _ => h s' I') hf
theorem Inv.call' {s' : Shared} {ch : List Addr} (I : Inv X pins σ H s) (ho : s'.os = s.os) (u : Un (frs X.stack) ch H H' s.heap s'.heap) (hok : HOk X.prog X.w H' s'.heap) (hg : AllBare s'.gens)
    (hch : ∀ b ∈ ch, (b ∈ X.ex ∨ X.s₀.heap.objs.size ≤ b) ∧ b ≠ X.env.locals ∧ (∀ x c, X.env.cells.lookup x = some c → c ≠ b) ∧ ∀ p ∈ X.pn ++ pins, p.1 ≠ b) : Inv X pins σ H' s' := by
  obtain ⟨h', g', d', t', o'⟩ := s'
  have e : o' = s.os := ho
  subst e
  exact I.call (g' := g') (t' := t') (d' := d') u hok hg hch
end

abbrev XK := Value → Option Addr → Hp → Prop
abbrev St := List (Option V)
abbrev VK := V → Hp → Prop
abbrev TE := St → Hp → VK → Prop
abbrev TT := St → Hp → (Bool → Hp → Prop) → Prop
abbrev TA := St → Hp → (List V → Hp → Prop) → Prop
structure Ends where
  nx : St → Hp → Prop
  rt : VK
  bk : St → Hp → Prop := fun _ _ => False
  ct : St → Hp → Prop := fun _ _ => False
abbrev TS := Ends → St → Hp → Prop

def EP (X : Cx) (pins : List (Addr × Obj)) (σ : St) (Q : VK) (u : Value) (s' : Shared) : Prop := ∃ v H', Inv X pins σ H' s' ∧ RelV v u ∧ Q v H'
def TP (X : Cx) (pins : List (Addr × Obj)) (σ : St) (Q : Bool → Hp → Prop) (b : Bool) (s' : Shared) : Prop := ∃ H', Inv X pins σ H' s' ∧ Q b H'
def AP (X : Cx) (pins : List (Addr × Obj)) (σ : St) (Q : List V → Hp → Prop) (us : List Value) (s' : Shared) : Prop := ∃ vs H', Inv X pins σ H' s' ∧ Vals vs us ∧ Q vs H'
def SP (X : Cx) (pins : List (Addr × Obj)) (D : Ends) (f : Flow) (s' : Shared) : Prop :=
  match f with
  | .next => ∃ σ' H', Inv X pins σ' H' s' ∧ D.nx σ' H'
  | .brk => ∃ σ' H', Inv X pins σ' H' s' ∧ D.bk σ' H'
  | .cont => ∃ σ' H', Inv X pins σ' H' s' ∧ D.ct σ' H'
  | .ret u => ∃ v σ' H', Inv X pins σ' H' s' ∧ RelV v u ∧ D.rt v H'

def PE (X : Cx) (e : Expr) (t : TE) : Prop :=
  ∀ (pins : List (Addr × Obj)) (s : Shared) (σ : St) (H : Hp) (Q : VK), Inv X pins σ H s → t σ H Q → wpAny (model X.prog X.w) X.A (eval e X.env) (EP X pins σ Q) X.xe s
def PT (X : Cx) (e : Expr) (t : TT) : Prop :=
  ∀ (pins : List (Addr × Obj)) (s : Shared) (σ : St) (H : Hp) (Q : Bool → Hp → Prop), Inv X pins σ H s → t σ H Q → wpAny (model X.prog X.w) X.A (isTrue e X.env (eval e X.env)) (TP X pins σ Q) X.xe s
def PW (X : Cx) (e : Expr) (t : TT) : Prop :=
  ∀ (whole : Sem Value) (pins : List (Addr × Obj)) (s : Shared) (σ : St) (H : Hp) (Q : Bool → Hp → Prop), Inv X pins σ H s → t σ H Q → wpAny (model X.prog X.w) X.A (isTrue e X.env whole) (TP X pins σ Q) X.xe s
theorem PW.pt {X : Cx} {e : Expr} {t : TT} (h : PW X e t) : PT X e t := h _
def PA (X : Cx) (es : List Expr) (t : TA) : Prop :=
  ∀ (pos : Pos) (pins : List (Addr × Obj)) (s : Shared) (σ : St) (H : Hp) (Q : List V → Hp → Prop), Inv X pins σ H s → t σ H Q → wpAny (model X.prog X.w) X.A (spliced (backTo pos (starEach es X.env))) (AP X pins σ Q) X.xe s
def PS (X : Cx) (st : Stmt) (t : TS) : Prop :=
  ∀ (pins : List (Addr × Obj)) (s : Shared) (σ : St) (H : Hp) (D : Ends), Inv X pins σ H s → t D σ H → wpAny (model X.prog X.w) X.A (exec st X.env) (SP X pins D) X.xe s
def PSs (X : Cx) (st : List Stmt) (t : TS) : Prop :=
  ∀ (pins : List (Addr × Obj)) (s : Shared) (σ : St) (H : Hp) (D : Ends), Inv X pins σ H s → t D σ H → wpAny (model X.prog X.w) X.A (execs st X.env) (SP X pins D) X.xe s
theorem thn {α : Type} {t : Sem α} {Q Q' : α → Shared → Prop} {M : Model} {A : Around} {E : Value → Shared → Prop} {s : Shared} (h : wpAny M A t Q E s) (hQ : ∀ a s, Q a s → Q' a s) : wpAny M A t Q' E s := wpAny_mono h hQ fun _ _ x => x
end L2

namespace L2
open PySem PySem.Spec PyProof.Rows
section
variable {X : Cx}

theorem bin {a b : Expr} {ta tb : TE} (ha : PE X a ta) (hb : PE X b tb) {pins : List (Addr × Obj)} {s : Shared} {σ : St} {H : Hp} {R : V → V → Hp → Prop} (I : Inv X pins σ H s) (h : ta σ H fun x H1 => tb σ H1 fun y H2 => R x y H2)
    {α : Type} {Q : α → Shared → Prop} {f : Value → Value → Sem α}
    (hf : ∀ v u s2 x y H2, Inv X pins σ H2 s2 → RelV x v → RelV y u → R x y H2 → wpAny (model X.prog X.w) X.A (f v u) Q X.xe s2) :
    wpAny (model X.prog X.w) X.A (eval a X.env) (fun v s₁ => wpAny (model X.prog X.w) X.A (eval b X.env) (fun u s₂ => wpAny (model X.prog X.w) X.A (f v u) Q X.xe s₂) X.xe s₁) X.xe s := by
  refine thn (ha pins s σ H _ I h) fun v s1 ⟨x, H1, I1, r1, q1⟩ => ?_
  refine thn (hb pins s1 σ H1 _ I1 q1) fun u s2 ⟨y, H2, I2, r2, q2⟩ => ?_
  exact hf v u s2 x y H2 I2 r1 r2 q2

def tVar (i : Nat) : TE := fun σ H Q => ∃ v, σ[i]? = some (some v) ∧ Q v H
def tC (v : V) : TE := fun _ H Q => Q v H
theorem pe_var {i : Nat} {x : Str} {pos : Pos} (hN : X.N[i]? = some x) (hv : Vis X.env.scope x) (hd : (x == ("__debug__" : Str)) = false := by decide) (hcd : (x == ("__classdict__" : Str)) = false := by decide) : PE X (.Name x pos) (tVar i) := by
  intro pins s σ H Q I h
  obtain ⟨v, e, h⟩ := h
  obtain ⟨m, hn, hl⟩ := I.loc
  obtain ⟨u, r, l⟩ := hl i x v hN e hv
  have fin : EP X pins σ Q u s := ⟨v, H, I, r, h⟩
  rcases l with ⟨hk, hm⟩ | ⟨hk, c, hc, hcell⟩
  · exact wpAny_Name (wpAny_loadName_local I.ok.kind hk hn hm fin) hd
  · rcases hk with hk | hk
    · exact wpAny_Name (wpAny_loadName_cell I.ok.kind hk hc hcell fin) hd
    · exact wpAny_Name (wpAny_loadName_free I.ok.kind hk hc hcell fin hcd) hd
theorem pe_int {i j pos} : PE X (.Constant (.int i) j pos) (tC (.int i)) := fun _ _ _ H _ I h => wpAny_Constant_int ⟨.int i, H, I.tok _, ⟨_, rfl⟩, h⟩
theorem pe_bl {b j pos} : PE X (.Constant (.bool b) j pos) (tC (.bl b)) := fun _ _ _ H _ I h => Constant_bool ⟨.bl b, H, I, rfl, h⟩
theorem pe_non {j pos} : PE X (.Constant .none j pos) (tC .non) := fun _ _ _ H _ I h => Constant_none ⟨.non, H, I, rfl, h⟩
theorem pe_str {x j pos} : PE X (.Constant (.str x) j pos) (tC (.str x)) := fun _ _ _ H _ I h => Calls.Constant_str ⟨.str x, H, I.tok _, ⟨_, rfl⟩, h⟩

def Gl (X : Cx) (x : Str) : Prop := X.env.kindOf x = some .globalImplicit
theorem ld_glob {E : Value → Shared → Prop} {pins : List (Addr × Obj)} {s : Shared} {σ : St} {H : Hp} {x : Str} {u : Value} {pos : Pos} {Q : Value → Shared → Prop} (I : Inv X pins σ H s) (hg : Gl X x) (hm : X.mg x = some u) (h : Q u s)
    (hd : (x == ("__debug__" : Str)) = false := by decide) : wpAny (model X.prog X.w) X.A (eval (.Name x pos) X.env) Q E s :=
  Calls.Name_function_global I.ok.kind hg (Calls.loadGlobal_global (by rw [I.ok.glob]; exact I.mod.glob.keeps I.bk) hm h) hd
theorem ld_blt {E : Value → Shared → Prop} {pins : List (Addr × Obj)} {s : Shared} {σ : St} {H : Hp} {x : Str} {u : Value} {pos : Pos} {Q : Value → Shared → Prop} (I : Inv X pins σ H s) (hg : Gl X x) (hm : X.mg x = none) (hv : bootBuiltins x = some u) (h : Q u s)
    (hn : x ≠ "__name__" := by decide) (hd : (x == ("__debug__" : Str)) = false := by decide) : wpAny (model X.prog X.w) X.A (eval (.Name x pos) X.env) Q E s := by
  obtain ⟨mb, h1, h2⟩ := I.mod.blt
  exact Calls.Name_function_global I.ok.kind hg (Calls.loadGlobal_builtin (by rw [I.ok.glob]; exact I.mod.glob.keeps I.bk) hm (by rw [I.ok.blt]; exact h1.keeps I.bk) ((h2 x hn).trans hv) h) hd
theorem pe_bltn {x : Str} {v : V} {u : Value} {pos : Pos} (hg : Gl X x) (hm : X.mg x = none) (hv : bootBuiltins x = some u) (r : RelV v u) (hn : x ≠ "__name__" := by decide) (hd : (x == ("__debug__" : Str)) = false := by decide) : PE X (.Name x pos) (tC v) :=
  fun _ _ _ H _ I h => ld_blt I hg hm hv ⟨v, H, I, r, h⟩ hn hd

def t2I (ta tb : TE) (k : Int → Int → Hp → Prop) : St → Hp → Prop := fun σ H => ta σ H fun x H1 => tb σ H1 fun y H2 => ∃ i j, x = .int i ∧ y = .int j ∧ k i j H2
def tAdd (ta tb : TE) : TE := fun σ H Q => t2I ta tb (fun i j H2 => Q (.int (i + j)) H2) σ H
def tSub (ta tb : TE) : TE := fun σ H Q => t2I ta tb (fun i j H2 => Q (.int (i - j)) H2) σ H
def tMul (ta tb : TE) : TE := fun σ H Q => t2I ta tb (fun i j H2 => (-(2 ^ 64) < i ∧ i < 2 ^ 64) ∧ Q (.int (i * j)) H2) σ H
variable {a b : Expr} {ta tb : TE} {pos : Pos}
def PC (X : Cx) (op : CmpOp) (a b : Expr) (t : TE) : Prop :=
  ∀ (pins : List (Addr × Obj)) (s : Shared) (σ : St) (H : Hp) (Q : VK), Inv X pins σ H s → t σ H Q →
    wpAny (model X.prog X.w) X.A (eval a X.env) (fun v s₁ => wpAny (model X.prog X.w) X.A (eval b X.env) (fun u s₂ => wpAny (model X.prog X.w) X.A (compareOp op v u) (EP X pins σ Q) X.xe s₂) X.xe s₁) X.xe s
def tCmp (p : Int → Int → Bool) (ta tb : TE) : TE := fun σ H Q => t2I ta tb (fun i j H2 => Q (.bl (p i j)) H2) σ H
abbrev tLt : TE → TE → TE := tCmp fun i j => decide (i < j)
abbrev tLe : TE → TE → TE := tCmp fun i j => decide (i ≤ j)
abbrev tGt : TE → TE → TE := tCmp fun i j => decide (j < i)
abbrev tGe : TE → TE → TE := tCmp fun i j => decide (j ≤ i)
abbrev tEqI : TE → TE → TE := tCmp fun i j => decide (i = j)
abbrev tNeI : TE → TE → TE := tCmp fun i j => !decide (i = j)
def tIsN (ta : TE) : TE := fun σ H Q => ta σ H fun x H1 => Q (.bl (decide (x = .non))) H1
def tNotN (ta : TE) : TE := fun σ H Q => ta σ H fun x H1 => Q (.bl (!decide (x = .non))) H1
def tB (t : TE) : TT := fun σ H Q => t σ H fun x H1 => ∃ c, x = .bl c ∧ Q c H1
variable {tA tB' : TT} {rest : List Expr}
def tAnd (t u : TT) : TT := fun σ H Q => t σ H fun c H1 => if c = true then u σ H1 Q else Q false H1
def tOr (t u : TT) : TT := fun σ H Q => t σ H fun c H1 => if c = true then Q true H1 else u σ H1 Q
def tNot (t : TT) : TT := fun σ H Q => t σ H fun c H1 => Q (!c) H1
theorem pw_and1 (ha : PT X a tA) : PW X (.BoolOp .And [a] pos) tA := by
  intro wh pins s σ H Q I h
  refine isTrue_and (thn (ha pins s σ H Q I h) fun c s1 e => ?_)
  cases c with
  | true => exact isTrue_and_nil e
  | false => exact e
theorem pw_or1 (ha : PT X a tA) : PW X (.BoolOp .Or [a] pos) tA := by
  intro wh pins s σ H Q I h
  refine isTrue_or (thn (ha pins s σ H Q I h) fun c s1 e => ?_)
  cases c with
  | false => exact isTrue_or_nil e
  | true => exact e
theorem pw_and (ha : PT X a tA) (hb : PW X (.BoolOp .And (b :: rest) pos) tB') : PW X (.BoolOp .And (a :: b :: rest) pos) (tAnd tA tB') := by
  intro wh pins s σ H Q I h
  refine isTrue_and (thn (ha pins s σ H _ I h) fun c s1 ⟨H1, I1, q1⟩ => ?_)
  cases c with
  | true => exact hb wh pins s1 σ H1 Q I1 q1
  | false => exact ⟨H1, I1, q1⟩
theorem pw_or (ha : PT X a tA) (hb : PW X (.BoolOp .Or (b :: rest) pos) tB') : PW X (.BoolOp .Or (a :: b :: rest) pos) (tOr tA tB') := by
  intro wh pins s σ H Q I h
  refine isTrue_or (thn (ha pins s σ H _ I h) fun c s1 ⟨H1, I1, q1⟩ => ?_)
  cases c with
  | true => exact ⟨H1, I1, q1⟩
  | false => exact hb wh pins s1 σ H1 Q I1 q1
theorem pt_not (ha : PT X a tA) : PT X (.UnaryOp .Not a pos) (tNot tA) := by
  intro pins s σ H Q I h
  exact isTrue_not (ha pins s σ H (fun c H1 => Q (!c) H1) I h)
def tAndV (ta tb : TE) : TE := fun σ H Q => ta σ H fun x H1 => ∃ c, x = .bl c ∧ if c = true then tb σ H1 Q else Q (.bl false) H1
def tOrV (ta tb : TE) : TE := fun σ H Q => ta σ H fun x H1 => ∃ c, x = .bl c ∧ if c = true then Q (.bl true) H1 else tb σ H1 Q
def tNotV (ta : TE) : TE := fun σ H Q => ta σ H fun x H1 => ∃ c, x = .bl c ∧ Q (.bl (!c)) H1
theorem pe_one {op} {t : TE} (h : PE X a t) : PE X (.BoolOp op [a] pos) t := fun pins s σ H Q I hw => BoolOp_one (h pins s σ H Q I hw)
theorem pe_and (ha : PE X a ta) (hb : PE X (.BoolOp .And (b :: rest) pos) tb) : PE X (.BoolOp .And (a :: b :: rest) pos) (tAndV ta tb) := by
  intro pins s σ H Q I h
  refine BoolOp_and (thn (ha pins s σ H _ I h) fun v s1 ⟨x, H1, I1, r1, q1⟩ => ?_)
  obtain ⟨c, rfl, q1⟩ := q1
  cases r1
  refine wpAny_truthy_bool ?_
  cases c with
  | true => exact hb pins s1 σ H1 Q I1 q1
  | false => exact ⟨.bl false, H1, I1, rfl, q1⟩
theorem pe_not (ha : PE X a ta) : PE X (.UnaryOp .Not a pos) (tNotV ta) := by
  intro pins s σ H Q I h
  refine UnaryOp_ (thn (ha pins s σ H _ I h) fun v s1 ⟨x, H1, I1, r1, q1⟩ => ?_)
  obtain ⟨c, rfl, q1⟩ := q1
  cases r1
  exact not_of (wpAny_truthy_bool ⟨.bl (!c), H1, I1, rfl, q1⟩)
def tIf (t : TT) (ta tb : TE) : TE := fun σ H Q => t σ H fun c H1 => if c = true then ta σ H1 Q else tb σ H1 Q
theorem pe_ifExp {c : Expr} (hc : PT X c tA) (ha : PE X a ta) (hb : PE X b tb) : PE X (.IfExp c a b pos) (tIf tA ta tb) := by
  intro pins s σ H Q I h
  refine wpAny_IfExp (thn (hc pins s σ H _ I h) fun d s1 ⟨H1, I1, q1⟩ => ?_)
  cases d with
  | true => exact ha pins s1 σ H1 Q I1 q1
  | false => exact hb pins s1 σ H1 Q I1 q1
end
end L2

namespace L2
open PySem PySem.Spec PyProof.Rows

def SqL (K : PySem.W.Frag) (H : Hp) (a : Addr) (xs : List V) : Prop :=
  Rd H a (.lst xs) ∨
    ∃ (o : Obj) (its : Array Value) (n : Nat), K.lookup a = some o ∧ o.cls = .type "list" ∧ o.dict = none ∧ o.data = .seq its n ∧ its.size ≤ sizeLine ∧ Vals xs its.toList
def SqT (K : PySem.W.Frag) (H : Hp) (a : Addr) (xs : List V) : Prop :=
  Rd H a (.tup xs) ∨
    ∃ (o : Obj) (its : Array Value) (n : Nat), K.lookup a = some o ∧ o.cls = .type "tuple" ∧ o.data = .seq its n ∧ its.size ≤ sizeLine ∧ Vals xs its.toList
def absV : Value → Option V
  | .none => some .non
  | .bool b => some (.bl b)
  | .int i _ => some (.int i)
  | .str x _ => some (.str x)
  | .bytes b _ => some (.byt b)
  | .float b _ => some (.flt b)
  | .ref a => some (.ref a)
  | .type n => some (.ty n)
  | _ => none
theorem RelV.abs {x : V} {u : Value} (r : RelV x u) : absV u = some x := by
  cases x with
  | non => cases r; rfl
  | bl _ => cases r; rfl
  | int _ => obtain ⟨t, rfl⟩ := r; rfl
  | str _ => obtain ⟨t, rfl⟩ := r; rfl
  | byt _ => obtain ⟨t, rfl⟩ := r; rfl
  | flt _ => obtain ⟨t, rfl⟩ := r; rfl
  | ref _ => cases r; rfl
  | ty _ => cases r; rfl
theorem RelV.inj {x y : V} {u : Value} (r : RelV x u) (q : RelV y u) : x = y := Option.some.inj (r.abs.symm.trans q.abs)
theorem Vals.inj : ∀ {xs ys : List V} {us : List Value}, Vals xs us → Vals ys us → xs = ys
  | _, _, _, .nil, .nil => rfl
  | _, _, _, .cons r t, .cons r' t' => by rw [r.inj r', Vals.inj t t']
section
variable {X : Cx} {pins : List (Addr × Obj)} {σ : St} {H : Hp} {s : Shared} {a : Addr} {xs ys : List V}
theorem SqL.of {K : PySem.W.Frag} (h : H a = some (.lst xs)) : SqL K H a xs := .inl (.inl h)
theorem SqT.of {K : PySem.W.Frag} (h : H a = some (.tup xs)) : SqT K H a xs := .inl (.inl h)
theorem Inv.list (I : Inv X pins σ H s) (h : SqL X.K H a xs) : ∃ its : List Value, Vals xs its ∧ PlainL s.heap a its.toArray ∧ xs.length ≤ sizeLine := by
  rcases h with h | ⟨o, its, n, hk, hc, hd, hs, hz, r⟩
  · obtain ⟨z, its, n, r, e⟩ := h.ok I.hok
    exact ⟨its, r, ⟨_, n, e, rfl, rfl, rfl⟩, z⟩
  · refine ⟨its.toList, r, ⟨o, n, I.kIn a o hk, hc, hd, by simpa using hs⟩, ?_⟩
    have e := r.length
    simp only [Array.length_toList] at e
    omega
theorem Inv.tuple (I : Inv X pins σ H s) (h : SqT X.K H a xs) : ∃ its : List Value, Vals xs its ∧ IsTup s.heap a its.toArray ∧ xs.length ≤ sizeLine := by
  rcases h with h | ⟨o, its, n, hk, hc, hs, hz, r⟩
  · obtain ⟨z, its, r, p⟩ := h.ok I.hok
    exact ⟨its, r, p, z⟩
  · refine ⟨its.toList, r, ⟨o, I.kIn a o hk, hc, n, by simpa using hs⟩, ?_⟩
    have e := r.length
    simp only [Array.length_toList] at e
    omega
theorem Inv.list_inj (I : Inv X pins σ H s) (h : SqL X.K H a xs) (h' : SqL X.K H a ys) : xs = ys := by
  obtain ⟨its, r, ⟨o, n, e, _, _, d⟩, _⟩ := I.list h
  obtain ⟨its', r', ⟨o', n', e', _, _, d'⟩, _⟩ := I.list h'
  rw [e] at e'; cases e'
  rw [d] at d'
  injection d' with d1 _
  have : its = its' := by simpa using congrArg Array.toList d1
  subst this
  exact r.inj r'
end

abbrev Cx.wish (X : Cx) (E : Value → Shared → Prop) : Cx := { X with xe := E }
abbrev Cx.nox (X : Cx) : Cx := X.wish fun _ _ => False
theorem Cx.Ok.wish {X : Cx} (ok : X.Ok) (E : Value → Shared → Prop) : (X.wish E).Ok :=
  ⟨ok.mod, ok.kind, ok.glob, ok.blt, ok.above, ok.inj, ok.has, ok.cab, ok.hd, ok.frames, ok.stk, ok.exf, ok.bs, ok.bsz, ok.noex, ok.exfs, ok.funs, ok.frf⟩
theorem Cx.Ok.unwish {X : Cx} {E : Value → Shared → Prop} (ok : (X.wish E).Ok) : X.Ok :=
  ⟨ok.mod, ok.kind, ok.glob, ok.blt, ok.above, ok.inj, ok.has, ok.cab, ok.hd, ok.frames, ok.stk, ok.exf, ok.bs, ok.bsz, ok.noex, ok.exfs, ok.funs, ok.frf⟩
section
variable {X : Cx} {pins : List (Addr × Obj)} {σ : St} {H : Hp} {s : Shared} {E : Value → Shared → Prop}
theorem Inv.wish (I : Inv X pins σ H s) (E : Value → Shared → Prop) : Inv (X.wish E) pins σ H s := ⟨I.ok.wish E, I.os, I.bare, I.base, I.loc, I.cell, I.free, I.freeC, I.pin, I.hok, I.len⟩
theorem Inv.unwish (I : Inv (X.wish E) pins σ H s) : Inv X pins σ H s := ⟨I.ok.unwish, I.os, I.bare, I.base, I.loc, I.cell, I.free, I.freeC, I.pin, I.hok, I.len⟩
theorem SP.unwish {D : Ends} {f : Flow} {s' : Shared} (h : SP (X.wish E) pins D f s') : SP X pins D f s' := by
  cases f with
  | next => obtain ⟨σ', H', I, q⟩ := h; exact ⟨σ', H', I.unwish, q⟩
  | brk => obtain ⟨σ', H', I, q⟩ := h; exact ⟨σ', H', I.unwish, q⟩
  | cont => obtain ⟨σ', H', I, q⟩ := h; exact ⟨σ', H', I.unwish, q⟩
  | ret u => obtain ⟨v, σ', H', I, r, q⟩ := h; exact ⟨v, σ', H', I.unwish, r, q⟩
theorem PSs.nox {st : List Stmt} {t : TS} (h : PSs X.nox st t) : PSs X st t := fun pins s σ H D I hw =>
  wpAny_mono (h pins s σ H D (I.wish _) hw) (fun _ _ q => q.unwish) fun _ _ z => False.elim z
end

section
variable {X : Cx} {st : Stmt} {rest : List Stmt} {t u : TS} {e : Expr} {te : TE} {pos : Pos}
def tNext : TS := fun D σ H => D.nx σ H
def tSeq (t u : TS) : TS := fun D σ H => t { D with nx := u D } σ H
theorem pss_nil : PSs X [] tNext := fun _ _ σ H _ I h => wpAny_execs_nil ⟨σ, H, I, h⟩
theorem pss_one (h1 : PS X st t) : PSs X [st] t := by
  intro pins s σ H D I h
  refine wpAny_execs_cons (thn (h1 pins s σ H D I h) fun f s1 q => ?_)
  cases f with
  | next => exact wpAny_execs_nil q
  | ret v => exact q
  | brk => exact q
  | cont => exact q
def tBreak : TS := fun D σ H => D.bk σ H
def tCont : TS := fun D σ H => D.ct σ H
theorem Inv.quiet {pins : List (Addr × Obj)} {σ : St} {H : Hp} {s : Shared} (I : Inv X pins σ H s) : interactive X.env = false := by simp [interactive, I.ok.kind]
def tDrop (te : TE) : TS := fun D σ H => te σ H fun _ H1 => D.nx σ H1
theorem ps_expr (he : PE X e te) (hs : swapsWith e none pos.line X.env = pure false := by rfl) : PS X (.Expr e pos) (tDrop te) := by
  intro pins s σ H D I h
  exact wpAny_Expr_any (thn (he pins s σ H _ I h) fun v s1 ⟨x, H1, I1, r1, q1⟩ => ⟨σ, H1, I1, q1⟩) I.quiet hs
def tRet (te : TE) : TS := fun D σ H => te σ H D.rt
theorem ps_ret (he : PE X e te) : PS X (.Return (some e) pos) (tRet te) := by
  intro pins s σ H D I h
  exact wpAny_Return_some (thn (he pins s σ H _ I h) fun v s1 ⟨x, H1, I1, r1, q1⟩ => ⟨x, σ, H1, I1, r1, q1⟩)
def tRetN : TS := fun D _ H => D.rt .non H
def tIfS (c : TT) (t u : TS) : TS := fun D σ H => c σ H fun b H1 => if b = true then t D σ H1 else u D σ H1
theorem ps_if {c : Expr} {a b : List Stmt} {tc : TT} (hc : PT X c tc) (ha : PSs X a t) (hb : PSs X b u) : PS X (.If c a b pos) (tIfS tc t u) := by
  intro pins s σ H D I h
  refine wpAny_If (thn (hc pins s σ H _ I h) fun d s1 ⟨H1, I1, q1⟩ => ?_)
  cases d with
  | true => exact ha pins s1 σ H1 D I1 q1
  | false => exact hb pins s1 σ H1 D I1 q1
def tNever : TS := fun _ _ _ => False
theorem ps_never : PS X st tNever := fun _ _ _ _ _ _ h => h.elim
end

abbrev TG := V → St → Hp → (St → Hp → Prop) → Prop
abbrev TGs := List V → St → Hp → (St → Hp → Prop) → Prop
def PG (X : Cx) (target : Expr) (t : TG) : Prop :=
  ∀ (pins : List (Addr × Obj)) (s : Shared) (σ : St) (H : Hp) (v : V) (u : Value) (Q : St → Hp → Prop), Inv X pins σ H s → RelV v u → t v σ H Q →
    wpAny (model X.prog X.w) X.A (assign target X.env u) (fun _ s' => ∃ σ' H', Inv X pins σ' H' s' ∧ Q σ' H') X.xe s
def PGs (X : Cx) (ts : List Expr) (t : TGs) : Prop :=
  ∀ (pins : List (Addr × Obj)) (s : Shared) (σ : St) (H : Hp) (vs : List V) (us : List Value) (Q : St → Hp → Prop), Inv X pins σ H s → Vals vs us → t vs σ H Q →
    wpAny (model X.prog X.w) X.A (assignInOrder ((assignEach ts X.env).map (·.2)) us) (fun _ s' => ∃ σ' H', Inv X pins σ' H' s' ∧ Q σ' H') X.xe s
abbrev TSet := V → V → V → Hp → (Hp → Prop) → Prop
def PSet (X : Cx) (t : TSet) : Prop :=
  ∀ (pins : List (Addr × Obj)) (s : Shared) (σ : St) (H : Hp) (o i v : V) (ov iv u : Value) (Q : Hp → Prop), Inv X pins σ H s → RelV o ov → RelV i iv → RelV v u → t o i v H Q →
    wpAny (model X.prog X.w) X.A (setItem ov iv u) (fun _ s' => ∃ H', Inv X pins σ H' s' ∧ Q H') X.xe s
abbrev TIp := V → V → Hp → VK → Prop
def PIp (X : Cx) (op : Operator) (t : TIp) : Prop :=
  ∀ (pins : List (Addr × Obj)) (s : Shared) (σ : St) (H : Hp) (x y : V) (v u : Value) (Q : VK), Inv X pins σ H s → RelV x v → RelV y u → t x y H Q →
    wpAny (model X.prog X.w) X.A (inplaceOp op v u) (EP X pins σ Q) X.xe s
section
variable {X : Cx} {pos : Pos}
def gName (i : Nat) : TG := fun v σ H Q => Q (σ.set i (some v)) H
theorem pg_name {i : Nat} {x : Str} (hN : X.N.Nodup) (hi : X.N[i]? = some x) (hx : Loc X.env.scope x) (hf : X.fn x = true ∨ X.env.scope.names.lookup x = some .local := by first | exact .inl rfl | exact .inr rfl | assumption) : PG X (.Name x pos) (gName i) := by
  intro pins s σ H v u Q I r h
  exact wpAny_assign_Name (store_ok I hN hi hx r (fun s' I' => ⟨_, H, I', h⟩) hf)
def gNil : TGs := fun vs σ H Q => vs = [] ∧ Q σ H
def gCons (t : TG) (u : TGs) : TGs := fun vs σ H Q => ∃ v r, vs = v :: r ∧ t v σ H fun σ' H' => u r σ' H' Q
def gTup (K : PySem.W.Frag) (n : Nat) (t : TGs) : TG := fun v σ H Q => ∃ a xs, v = .ref a ∧ SqT K H a xs ∧ xs.length = n ∧ t xs σ H Q
def gSub (to ti : TE) (t : TSet) : TG := fun v σ H Q => to σ H fun o H1 => ti σ H1 fun i H2 => t o i v H2 fun H3 => Q σ H3
theorem pg_sub {o i : Expr} {to ti : TE} {t : TSet} (ho : PE X o to) (hi : PE X i ti) (hs : PSet X t)
    (ha : ∀ v, assign (.Subscript o i pos) X.env v = (do
      let ov ← holding [v] (eval o X.env)
      let iv ← holding [v, ov] (eval i X.env)
      standAt pos
      holding [v, ov, iv] (setItem ov iv v)
      release [v, ov, iv] []) := by intro _; rfl) : PG X (.Subscript o i pos) (gSub to ti t) := by
  intro pins s σ H v u Q I r h
  rw [ha]
  refine wpAny_bind (wpAny_holding (thn (ho pins s σ H _ I h) fun ov s1 ⟨x, H1, I1, r1, q1⟩ => ?_))
  refine wpAny_bind (wpAny_holding (thn (hi pins s1 σ H1 _ I1 q1) fun iv s2 ⟨y, H2, I2, r2, q2⟩ => ?_))
  refine wpAny_bind (wpAny_standAt (wpAny_bind (wpAny_holding (thn (hs pins s2 σ H2 x y v ov iv u _ I2 r1 r2 r q2) fun _ s3 ⟨H3, I3, q3⟩ => ?_))))
  exact wpAny_release ⟨σ, H3, I3, q3⟩
def tAsg (te : TE) (g : TG) : TS := fun D σ H => te σ H fun x H1 => g x σ H1 D.nx
theorem ps_asg {tg e : Expr} {te : TE} {g : TG} (he : PE X e te) (hg : PG X tg g) (hs : swapsWithSole [tg] e pos.line X.env = pure false := by rfl) (hw : swappedStores [tg] e X.env = pure none := by rfl)
    (h1 : (assignEach [tg] X.env).map (·.2) = [assign tg X.env] := by rfl) : PS X (.Assign [tg] e pos) (tAsg te g) := by
  intro pins s σ H D I h
  refine wpAny_Assign_stores (thn (he pins s σ H _ I h) fun v s1 ⟨x, H1, I1, r1, q1⟩ => ?_) hs hw
  rw [h1]
  exact thn (hg pins s1 σ H1 x v _ I1 r1 q1) fun _ s2 q => q
theorem ps_set {i : Nat} {x : Str} {e : Expr} {te : TE} {pos' : Pos} (hN : X.N.Nodup) (hi : X.N[i]? = some x) (hx : Loc X.env.scope x) (he : PE X e te) (hs : swapsWith e (some (.Name x pos')) pos.line X.env = pure false := by rfl) (hf : X.fn x = true ∨ X.env.scope.names.lookup x = some .local := by first | exact .inl rfl | exact .inr rfl | assumption) :
    PS X (.Assign [.Name x pos'] e pos) (tAsg te (gName i)) := by
  intro pins s σ H D I h
  refine wpAny_Assign_Name (thn (he pins s σ H _ I h) fun v s1 ⟨y, H1, I1, r1, q1⟩ => ?_) hs
  exact store_ok I1 hN hi hx r1 (fun s2 I2 => ⟨_, H1, I2, q1⟩) hf
def tPar (i j : Nat) (ta : TA) : TS := fun D σ H => ta σ H fun vs H1 => ∃ v w, vs = [v, w] ∧ D.nx ((σ.set i (some v)).set j (some w)) H1
def tAug (i : Nat) (te : TE) (ti : TIp) : TS := fun D σ H => ∃ x, σ[i]? = some (some x) ∧ te σ H fun y H1 => ti x y H1 fun z H2 => D.nx (σ.set i (some z)) H2
def tAugS (to ti te : TE) (tget : V → V → Hp → VK → Prop) (tip : TIp) (tset : TSet) : TS := fun D σ H => to σ H fun o H1 => ti σ H1 fun i H2 => tget o i H2 fun x H3 => te σ H3 fun y H4 => tip x y H4 fun z H5 => tset o i z H5 fun H6 => D.nx σ H6
def PGet (X : Cx) (t : V → V → Hp → VK → Prop) : Prop :=
  ∀ (pins : List (Addr × Obj)) (s : Shared) (σ : St) (H : Hp) (o i : V) (ov iv : Value) (Q : VK), Inv X pins σ H s → RelV o ov → RelV i iv → t o i H Q →
    wpAny (model X.prog X.w) X.A (getItem ov iv) (EP X pins σ Q) X.xe s
def ipI (f : Int → Int → Int) : TIp := fun x y H Q => ∃ i j, x = .int i ∧ y = .int j ∧ Q (.int (f i j)) H
end

section
variable {X : Cx} {pos : Pos}
def tWhile (c : TT) (tb : TS) : TS := fun D σ H => ∃ W : Nat → St → Hp → Prop, (∃ m, W m σ H) ∧ ∀ m σ H, W m σ H →
  c σ H fun b H1 => if b = true then ∃ N : St → Hp → Prop, (∀ σ' H', N σ' H' → ∃ m', m' < m ∧ W m' σ' H') ∧ tb { D with nx := N, ct := N, bk := D.nx } σ H1 else D.nx σ H1
theorem ps_while {c : Expr} {body : List Stmt} {tc : TT} {tb : TS} (hp : PassesOwn (model X.prog X.w) X.A X.env X.xe) (hc : PT X c tc) (hb : PSs X body tb) : PS X (.While c body [] pos) (tWhile tc tb) := by
  intro pins s σ H D I h
  obtain ⟨W, ⟨m0, w0⟩, turn⟩ := h
  refine wpAny_While (codeAny_whileLoop (fun n s' => ∃ σ' H', Inv X pins σ' H' s' ∧ W n σ' H') ?_ m0 ⟨σ, H, I, w0⟩)
  rintro n s1 ⟨σ1, H1, I1, w1⟩
  refine wpAny_passesOwn hp (thn (hc pins s1 σ1 H1 _ I1 (turn n σ1 H1 w1)) fun b s2 ⟨H2, I2, q2⟩ => ?_)
  cases b with
  | true =>
    obtain ⟨N, hN, q2⟩ := q2
    rw [if_pos rfl]
    refine wpAny_passesOwn hp (thn (hb pins s2 σ1 H2 _ I2 q2) fun f s3 q3 => ?_)
    cases f with
    | next =>
      obtain ⟨σ3, H3, I3, n3⟩ := q3
      obtain ⟨m', hm, w3⟩ := hN σ3 H3 n3
      exact ⟨m', hm, σ3, H3, I3, w3⟩
    | cont =>
      obtain ⟨σ3, H3, I3, n3⟩ := q3
      obtain ⟨m', hm, w3⟩ := hN σ3 H3 n3
      exact ⟨m', hm, σ3, H3, I3, w3⟩
    | brk => exact q3
    | ret v => exact q3
  | false =>
    rw [if_neg Bool.false_ne_true]
    exact wpAny_execs_nil ⟨σ1, H2, I2, q2⟩
end

structure It where
  go : Nat → Hp → Prop
  yld : Nat → Hp → V → Hp → Prop
  stop : Nat → Hp → Prop
def FpOk (X : Cx) (pins : List (Addr × Obj)) (H : Hp) (b : Addr) : Prop :=
  H b = none ∧ b ≠ X.env.locals ∧ b ∉ X.fs ∧ (b ∈ X.ex ∨ X.s₀.heap.objs.size ≤ b) ∧ (∀ x c, X.env.cells.lookup x = some c → c ≠ b) ∧ ∀ p ∈ X.pn ++ pins, p.1 ≠ b
theorem Inv.fpOk {X : Cx} {pins : List (Addr × Obj)} {σ : St} {H H' : Hp} {s : Shared} {b : Addr} (I : Inv X pins σ H s) (hb : s.heap.objs.size ≤ b) (hn : H' b = none) : FpOk X pins H' b := by
  refine ⟨hn, Nat.ne_of_gt (Nat.lt_of_lt_of_le I.lt hb), I.nofs hb, .inr (Nat.le_trans I.sz hb), fun x c e z => ?_, fun p hp z => ?_⟩
  · obtain ⟨v, q⟩ := I.cell x c e
    exact absurd (Nat.lt_of_lt_of_le q.lt (by rw [z]; exact hb)) (Nat.lt_irrefl _)
  · exact absurd (Nat.lt_of_lt_of_le (Heap.lt_size (I.pin p hp).1) (by rw [z]; exact hb)) (Nat.lt_irrefl _)
structure Turn (P : Program) (w : World) (K : PySem.W.Frag) (tg : Expr) (J : It) (fp : List Addr) (it : Addr) (tn : Nat → Heap → Prop) : Prop where
  mem : it ∈ fp
  obj : ∀ i h, tn i h → ∀ b ∈ fp, ∃ o, h.get? b = some o ∧ ∀ v, o.data ≠ .cell v
  keep : ∀ i h h', tn i h → (∀ b ∈ fp, ∀ o, h.get? b = some o → h'.get? b = some o) → tn i h'
  item : ∀ (X : Cx), X.prog = P → X.w = w → X.K = K → X.calm = true → ∀ (i : Nat) (pins : List (Addr × Obj)) (s : Shared) (σ : St) (H : Hp) (E : Value → Shared → Prop), Inv X pins σ H s → (∀ b ∈ fp, FpOk X pins H b) → tn i s.heap → J.go i H →
    wpAny (model P w) X.A (pyNext (.ref it)) (fun r s1 => ∃ u, r = some u ∧
      wpAny (model P w) X.A (letOwnedTupleGo tg (.ref it) u) (fun _ s2 => ∃ x H', Inv X pins σ H' s2 ∧ RelV x u ∧ J.yld i H x H' ∧ tn (i + 1) s2.heap ∧ ∀ b ∈ fp, H' b = none) E s1) E s
  done : ∀ (X : Cx), X.prog = P → X.w = w → X.K = K → X.calm = true → ∀ (i : Nat) (pins : List (Addr × Obj)) (s : Shared) (σ : St) (H : Hp) (E : Value → Shared → Prop), Inv X pins σ H s → (∀ b ∈ fp, FpOk X pins H b) → tn i s.heap → J.stop i H →
    wpAny (model P w) X.A (pyNext (.ref it)) (fun r s1 => r = none ∧ Inv X pins σ H s1) E s
  self : ∀ (A : Around) (i : Nat) (s : Shared) (Q : Value → Shared → Prop) (E : Value → Shared → Prop), tn i s.heap → Q (.ref it) s → wpAny (model P w) A (pyIter (.ref it)) Q E s
abbrev TI := St → Hp → (It → Hp → Prop) → Prop
def PIE (X : Cx) (pins : List (Addr × Obj)) (σ : St) (tg : Expr) (R : It → Hp → Prop) (itv : Value) (s2 : Shared) : Prop :=
  ∃ (it : Addr) (fp : List Addr) (tn : Nat → Heap → Prop) (J : It) (H' : Hp), itv = .ref it ∧ Inv X pins σ H' s2 ∧ Turn X.prog X.w X.K tg J fp it tn ∧ tn 0 s2.heap ∧ (∀ b ∈ fp, FpOk X pins H' b) ∧ R J H'
def PI (X : Cx) (tg iter : Expr) (wi : TI) : Prop :=
  ∀ (pins : List (Addr × Obj)) (s : Shared) (σ : St) (H : Hp) (R : It → Hp → Prop), Inv X pins σ H s → wi σ H R →
    wpAny (model X.prog X.w) X.A (eval iter X.env) (fun v s1 => wpAny (model X.prog X.w) X.A (pyIter v) (PIE X pins σ tg R) X.xe s1) X.xe s

theorem go_of {M : Model} {A : Around} {E : Value → Shared → Prop} {s : Shared} {tg : Expr} {it : Addr} {u : Value} {o : Obj} {n : String} {vs : Array Value} {Q : Unit → Shared → Prop} (ho : s.heap.get? it = some o) (hc : o.cls = .type n) (hd : o.data = .fields vs)
    (hn : ["enumerate", "zip", "dict_itemiterator", "dict_reverseitemiterator", "odict_iterator", "itertools.zip_longest", "itertools.pairwise"].contains n = false) (hQ : Q () s) : wpAny M A (letOwnedTupleGo tg (.ref it) u) Q E s := by
  unfold letOwnedTupleGo
  cases tg <;> first
    | exact wpAny_pure hQ
    | (cases u <;> first
        | exact wpAny_pure hQ
        | (refine wpAny_bind (wpAny_load ho ?_)
           rw [hc, hd]
           show wpAny M A (if (["enumerate", "zip", "dict_itemiterator", "dict_reverseitemiterator", "odict_iterator", "itertools.zip_longest", "itertools.pairwise"].contains n && vs[0]? == some (rawInt _)) = true then _ else _) Q E s
           rw [if_neg (by intro h; rw [hn, Bool.false_and] at h; cases h)]
           exact wpAny_pure hQ))

def Itl (K : PySem.W.Frag) (a : Addr) : It :=
  ⟨fun i H => ∃ xs x, SqL K H a xs ∧ xs[i]? = some x, fun i H x H' => H' = H ∧ ∀ xs, SqL K H a xs → xs[i]? = some x, fun i H => ∃ xs, SqL K H a xs ∧ xs.length ≤ i⟩
def Itt (K : PySem.W.Frag) (a : Addr) : It :=
  ⟨fun i H => ∃ xs x, SqT K H a xs ∧ xs[i]? = some x, fun i H x H' => H' = H ∧ ∀ xs, SqT K H a xs → xs[i]? = some x, fun i H => ∃ xs, SqT K H a xs ∧ xs.length ≤ i⟩
def Itr (lo : Int) (n : Nat) : It := ⟨fun i _ => i < n, fun i H x H' => H' = H ∧ x = .int (lo + i), fun i _ => n ≤ i⟩
theorem turn_list {P : Program} {w : World} {K : PySem.W.Frag} {tg : Expr} (a it : Addr) : Turn P w K tg (Itl K a) [it] it (fun i h => h.IsListIter it a i) where
  mem := by simp
  obj := fun i h st b hb => by
    have e : b = it := by simpa using hb
    subst e
    obtain ⟨o, e, c, d⟩ := st
    exact ⟨o, e, fun v z => by rw [d] at z; cases z⟩
  keep := fun i h h' st k => st.at fun o e => k it (by simp) o e
  item := by
    intro X hP hw hK hc i pins s σ H E I hf st hg
    subst hP hw hK
    obtain ⟨xs, x, hq, hx⟩ := hg
    obtain ⟨its, rv, p, hz⟩ := I.list hq
    obtain ⟨u, hu, ru⟩ := rv.get hx
    obtain ⟨f0, f1, f2, f3, f4, f5⟩ := hf it (by simp)
    refine wpAny_pyNext_list_item st p.isList (x := u) (by simpa using hu) fun h' st' sb => ?_
    have I1 : Inv X pins σ H { s with heap := h' } := I.turned (t' := s.toks) (fun b o hb e => (sb.2 b hb).trans e) f0 f1 f3 f4 f5
    obtain ⟨o, e, c, d⟩ := id st'
    exact ⟨u, rfl, go_of (s := { s with heap := h' }) e c d (by decide) ⟨x, H, I1, ru, ⟨rfl, fun ys hy => by rw [I.list_inj hy hq]; exact hx⟩, st', fun b hb => (hf b hb).1⟩⟩
  done := by
    intro X hP hw hK hc i pins s σ H E I hf st hg
    subst hP hw hK
    obtain ⟨xs, hq, hx⟩ := hg
    obtain ⟨its, rv, p, hz⟩ := I.list hq
    obtain ⟨f0, f1, f2, f3, f4, f5⟩ := hf it (by simp)
    have hl := rv.length
    exact wpAny_pyNext_list_end (I.ok.hd hc) st p.isList (by simp; omega) fun h' eb => ⟨rfl, I.turned (t' := s.toks) (fun b o hb e => eb b o hb e) f0 f1 f3 f4 f5⟩
  self := fun _ _ _ _ _ st h => wpAny_pyIter_listiter st h
theorem turn_range {P : Program} {w : World} {K : PySem.W.Frag} {tg : Expr} (it : Addr) (lo : Int) (n : Nat) : Turn P w K tg (Itr lo n) [it] it (fun i h => IsRangeIter h it (lo + (i : Nat) * 1) ((n : Int) - (i : Nat)) 1) where
  mem := by simp
  obj := fun i h st b hb => by
    have e : b = it := by simpa using hb
    subst e
    exact ⟨_, st, fun v z => by
      have z' : Data.fields _ = Data.cell v := z
      cases z'⟩
  keep := fun i h h' st k => k it (by simp) _ st
  item := by
    intro X hP hw hK hc i pins s σ H E I hf st hg
    subst hP hw hK
    obtain ⟨f0, f1, f2, f3, f4, f5⟩ := hf it (by simp)
    have W := Walks.range (prog := X.prog) (w := X.w) (I.ok.hd hc) it lo 1 n
    refine W.item i s _ _ hg st fun v h' tk hv st' kk => ?_
    obtain ⟨t, rfl⟩ := hv
    have I1 : Inv X pins σ H { s with heap := h', toks := tk } := I.turned (fun b o hb e => kk b o (by simpa using hb) e) f0 f1 f3 f4 f5
    refine ⟨_, rfl, go_of (s := { s with heap := h', toks := tk }) (n := "range_iterator") st' rfl rfl (by decide) ⟨.int (lo + i), H, I1, ⟨t, ?_⟩, ⟨rfl, rfl⟩, st', fun b hb => (hf b hb).1⟩⟩
    rw [Int.mul_one]
  done := by
    intro X hP hw hK hc i pins s σ H E I hf st hg
    subst hP hw hK
    obtain ⟨f0, f1, f2, f3, f4, f5⟩ := hf it (by simp)
    exact wpAny_pyNext_range_end (I.ok.hd hc) st (by have : n ≤ i := hg; omega) fun h' eb => ⟨rfl, I.turned (t' := s.toks) (fun b o hb e => eb b o hb e) f0 f1 f3 f4 f5⟩
  self := fun _ _ _ _ _ st h => wpAny_pyIter_rangeiter st h
end L2

namespace L2
open PySem PySem.Spec PyProof.Rows
section
variable {X : Cx} {tg : Expr}
def iList (K : PySem.W.Frag) (tl : TE) : TI := fun σ H R => tl σ H fun x H1 => ∃ a, x = .ref a ∧ (∃ xs, SqL K H1 a xs) ∧ R (Itl K a) H1
def iTup (K : PySem.W.Frag) (tl : TE) : TI := fun σ H R => tl σ H fun x H1 => ∃ a, x = .ref a ∧ (∃ xs, SqT K H1 a xs) ∧ R (Itt K a) H1
theorem pi_list {l : Expr} {tl : TE} (hl : PE X l tl) : PI X tg l (iList X.K tl) := by
  intro pins s σ H R I h
  refine thn (hl pins s σ H _ I h) fun v s1 ⟨x, H1, I1, r1, q1⟩ => ?_
  obtain ⟨a, e, ⟨xs, hq⟩, q⟩ := q1
  subst e
  cases r1
  obtain ⟨its, rv, p, hz⟩ := I1.list hq
  refine wpAny_pyIter_list p.isList ?_
  refine ⟨s1.heap.objs.size, [s1.heap.objs.size], _, _, H1, rfl, I1.kept (t' := s1.toks) fun b o e => Heap.get?_push_of_some _ e, turn_list a _, ⟨_, Heap.get?_push_size _ rfl, rfl, rfl⟩, fun b hb => ?_, q⟩
  have e : b = s1.heap.objs.size := by simpa using hb
  subst e
  exact I1.fpOk (Nat.le_refl _) (I1.hok.fresh (Nat.le_refl _))
theorem range_it {pins : List (Addr × Obj)} {σ : St} {H : Hp} {s : Shared} {R : It → Hp → Prop} {E : Value → Shared → Prop} {lo hi : Int} {t u v : Tok} {tk : Nat} (I : Inv X pins σ H s) (h1 : -(2 ^ 62) ≤ lo) (h2 : lo < 2 ^ 62) (h3 : -(2 ^ 62) ≤ hi) (h4 : hi < 2 ^ 62)
    (q : R (Itr lo (hi - lo).toNat) H) : wpAny (model X.prog X.w) X.A (pyIter (.ref s.heap.objs.size)) (PIE X pins σ tg R) E { s with heap := s.heap.push { cls := .type "range", data := .fields #[.int lo t, .int hi u, .int 1 v] }, toks := tk } := by
  refine wpAny_pyIter_range (IsRange.new ..) (small_one h1 h2 h3 h4) ?_
  have I1 : Inv X pins σ H { s with heap := s.heap.push { cls := .type "range", data := .fields #[.int lo t, .int hi u, .int 1 v] }, toks := tk } := I.kept fun b o e => Heap.get?_push_of_some _ e
  refine ⟨(s.heap.push { cls := .type "range", data := .fields #[.int lo t, .int hi u, .int 1 v] }).objs.size, [(s.heap.push { cls := .type "range", data := .fields #[.int lo t, .int hi u, .int 1 v] }).objs.size], _, _, H, rfl,
    I1.kept (t' := tk) fun b o e => Heap.get?_push_of_some _ e, turn_range _ lo (hi - lo).toNat, ?_, fun b hb => ?_, q⟩
  · have e1 : lo + ((0 : Nat) : Int) * 1 = lo := by simp
    have e2 : (((hi - lo).toNat : Nat) : Int) - ((0 : Nat) : Int) = Builtin.Range.rangeSize lo hi 1 := by rw [rangeSize_one]; split <;> omega
    show IsRangeIter _ _ (lo + ((0 : Nat) : Int) * 1) ((((hi - lo).toNat : Nat) : Int) - ((0 : Nat) : Int)) 1
    rw [e1, e2]
    exact Heap.get?_push_size _ rfl
  · have e : b = (s.heap.push { cls := .type "range", data := .fields #[.int lo t, .int hi u, .int 1 v] }).objs.size := by simpa using hb
    subst e
    exact I1.fpOk (Nat.le_refl _) (I1.hok.fresh (Nat.le_refl _))
def iRng1 (ta : TA) : TI := fun σ H R => ta σ H fun vs H1 => ∃ j : Int, vs = [.int j] ∧ -(2 ^ 62) ≤ j ∧ j < 2 ^ 62 ∧ R (Itr 0 j.toNat) H1
def iRng2 (ta : TA) : TI := fun σ H R => ta σ H fun vs H1 => ∃ i j : Int, vs = [.int i, .int j] ∧ (-(2 ^ 62) ≤ i ∧ i < 2 ^ 62 ∧ -(2 ^ 62) ≤ j ∧ j < 2 ^ 62) ∧ R (Itr i (j - i).toNat) H1
theorem pi_range1 {a : Expr} {ta : TA} {p pos : Pos} (hg : Gl X "range") (hm : X.mg "range" = none) (ha : PA X [a] ta) (hs : starEach [a] X.env = [(false, eval a X.env)] := by rfl) : PI X tg (.Call (.Name "range" p) [a] [] pos) (iRng1 ta) := by
  intro pins s σ H R I h
  refine Call_ (ld_blt I hg hm boot_range (PyProof.Rows.callWith_type1 (thn (ha pos pins s σ H _ I h) fun us s1 ⟨vs, H1, I1, r1, q1⟩ => ?_) hs rfl))
  obtain ⟨j, e, q1, q2, q⟩ := q1
  subst e
  cases r1 with
  | cons r rr =>
    cases rr
    obtain ⟨t, rfl⟩ := r
    exact call_range_1 (range_it I1 (by omega) (by omega) q1 q2 (by simpa using q))
def tFor (wi : TI) (g : TG) (tb : TS) : TS := fun D σ H => wi σ H fun J H1 => ∃ W : Nat → Nat → St → Hp → Prop, (∃ m, W 0 m σ H1) ∧ ∀ i m σ H, W i m σ H →
  (J.stop i H ∧ D.nx σ H) ∨ (J.go i H ∧ ∃ N : St → Hp → Prop, (∀ σ' H', N σ' H' → ∃ m', m' < m ∧ W (i + 1) m' σ' H') ∧ ∀ x H', J.yld i H x H' → g x σ H' fun σ2 H2 => tb { D with nx := N, ct := N, bk := D.nx } σ2 H2)
def pinsAt (fp : List Addr) (h : Heap) : List (Addr × Obj) := fp.filterMap fun b => (h.get? b).map fun o => (b, o)
theorem mem_pinsAt {fp : List Addr} {h : Heap} {b : Addr} {o : Obj} (hb : b ∈ fp) (e : h.get? b = some o) : (b, o) ∈ pinsAt fp h := List.mem_filterMap.mpr ⟨b, hb, by rw [e]; rfl⟩
theorem of_pinsAt {fp : List Addr} {h : Heap} {p : Addr × Obj} (hp : p ∈ pinsAt fp h) : p.1 ∈ fp ∧ h.get? p.1 = some p.2 := by
  obtain ⟨b, hb, e⟩ := List.mem_filterMap.mp hp
  cases q : h.get? b with
  | none => rw [q] at e; cases e
  | some o =>
    rw [q] at e
    have e' : (b, o) = p := Option.some.inj e
    subst e'
    exact ⟨hb, q⟩
theorem Inv.pinned {pins : List (Addr × Obj)} {σ : St} {H : Hp} {s : Shared} {fp : List Addr} (I : Inv X pins σ H s) (hf : ∀ b ∈ fp, FpOk X pins H b) (ho : ∀ b ∈ fp, ∃ o, s.heap.get? b = some o ∧ ∀ v, o.data ≠ .cell v) : Inv X (pins ++ pinsAt fp s.heap) σ H s :=
  I.pins_of fun p hp => (List.mem_append.mp hp).elim (fun z => I.pin p (List.mem_append_right _ z)) fun z => by
    obtain ⟨hb, e⟩ := of_pinsAt z
    obtain ⟨f0, f1, f2, _⟩ := hf p.1 hb
    obtain ⟨o, e', d⟩ := ho p.1 hb
    rw [e] at e'; cases e'
    exact ⟨e, f0, f1, f2, d⟩
theorem Inv.unpinned {pins pl : List (Addr × Obj)} {σ : St} {H : Hp} {s : Shared} (I : Inv X (pins ++ pl) σ H s) : Inv X pins σ H s := I.pins_of fun p hp => I.pin p (List.mem_append_right _ (List.mem_append_left _ hp))
theorem ps_for {iter : Expr} {body : List Stmt} {wi : TI} {g : TG} {tb : TS} {pos : Pos} (hp : PassesOwn (model X.prog X.w) X.A X.env X.xe) (hc : X.calm = true) (hi : PI X tg iter wi) (hg : PG X tg g) (hb : PSs X body tb)
    (hs : ∀ x, foldedSetIterable iter X.env x = pure x := by intro _; rfl) : PS X (.For tg iter body [] pos) (tFor wi g tb) := by
  intro pins s σ H D I h
  refine wpAny_For (thn (hi pins s σ H _ I h) fun v s1 h1 => thn h1 fun itv s2 h2 => ?_) hs
  obtain ⟨it, fp, tn, J, H2, e, I2, T, st2, f2, W, ⟨m0, w0⟩, turn⟩ := h2
  subst e
  -- what stays true of the iterator's objects through the loop
  have stat : ∀ {H' : Hp}, (∀ b ∈ fp, H' b = none) → ∀ b ∈ fp, FpOk X pins H' b := fun hn b hb => ⟨hn b hb, (f2 b hb).2⟩
  refine codeAny_forLoop_any (fun n s' => ∃ i σ' H', Inv X pins σ' H' s' ∧ tn i s'.heap ∧ (∀ b ∈ fp, H' b = none) ∧ W i n σ' H') ?_ m0 ⟨0, σ, H2, I2, st2, fun b hb => (f2 b hb).1, w0⟩
  rintro n s3 ⟨i, σ3, H3, I3, st3, fr3, w3⟩
  rcases turn i n σ3 H3 w3 with ⟨stop, qn⟩ | ⟨go, N, hN, step⟩
  · refine wpAny_passesOwn hp (thn (T.done X rfl rfl rfl hc i pins s3 σ3 H3 X.xe I3 (stat fr3) st3 stop) fun r s4 ⟨hr, I4⟩ => ?_)
    subst hr
    exact wpAny_execs_nil ⟨σ3, H3, I4, qn⟩
  · refine wpAny_passesOwn hp (thn (T.item X rfl rfl rfl hc i pins s3 σ3 H3 X.xe I3 (stat fr3) st3 go) fun r s4 ⟨u, hr, h4⟩ => ?_)
    subst hr
    refine wpAny_passesOwn hp (thn h4 fun _ s5 ⟨x, H5, I5, r5, y5, st5, fr5⟩ => ?_)
    have I5' := I5.pinned (stat fr5) (T.obj _ _ st5)
    refine wpAny_passesOwn hp (thn (hg _ s5 σ3 H5 x u _ I5' r5 (step x H5 y5)) fun _ s6 ⟨σ6, H6, I6, q6⟩ => ?_)
    refine wpAny_passesOwn hp (thn (hb _ s6 σ6 H6 _ I6 q6) fun f s7 q7 => ?_)
    have again : ∀ {σ7 : St} {H7 : Hp}, Inv X (pins ++ pinsAt fp s5.heap) σ7 H7 s7 → N σ7 H7 → ∃ m, m < n ∧ ∃ i σ' H', Inv X pins σ' H' s7 ∧ tn i s7.heap ∧ (∀ b ∈ fp, H' b = none) ∧ W i m σ' H' := fun {σ7 H7} I7 n7 => by
      obtain ⟨m', hm, w7⟩ := hN σ7 H7 n7
      refine ⟨m', hm, i + 1, σ7, H7, I7.unpinned, T.keep _ _ _ st5 fun b hb o e => (I7.pin (b, o) (List.mem_append_right _ (List.mem_append_right _ (mem_pinsAt hb e)))).1, fun b hb => ?_, w7⟩
      obtain ⟨o, e, d⟩ := T.obj _ _ st5 b hb
      exact (I7.pin (b, o) (List.mem_append_right _ (List.mem_append_right _ (mem_pinsAt hb e)))).2.1
    cases f with
    | next => obtain ⟨σ7, H7, I7, n7⟩ := q7; exact again I7 n7
    | cont => obtain ⟨σ7, H7, I7, n7⟩ := q7; exact again I7 n7
    | brk => obtain ⟨σ7, H7, I7, q7⟩ := q7; exact ⟨σ7, H7, I7.unpinned, q7⟩
    | ret v => obtain ⟨x7, σ7, H7, I7, r7, q7⟩ := q7; exact ⟨x7, σ7, H7, I7.unpinned, r7, q7⟩
end

theorem for_list {K : PySem.W.Frag} {a : Addr} {xs : List V} {g : TG} {tb : TS} {D : Ends} {σ : St} {H : Hp} (Pv : Nat → St → Hp → Prop) (h0 : Pv 0 σ H) (hl : ∀ i σ H, i ≤ xs.length → Pv i σ H → SqL K H a xs)
    (hs : ∀ i x σ H, xs[i]? = some x → Pv i σ H → g x σ H fun σ2 H2 => tb { D with nx := Pv (i + 1), ct := Pv (i + 1), bk := D.nx } σ2 H2) (hd : ∀ σ H, Pv xs.length σ H → D.nx σ H) :
    ∃ W : Nat → Nat → St → Hp → Prop, (∃ m, W 0 m σ H) ∧ ∀ i m σ H, W i m σ H →
      ((Itl K a).stop i H ∧ D.nx σ H) ∨ ((Itl K a).go i H ∧ ∃ N : St → Hp → Prop, (∀ σ' H', N σ' H' → ∃ m', m' < m ∧ W (i + 1) m' σ' H') ∧ ∀ x H', (Itl K a).yld i H x H' → g x σ H' fun σ2 H2 => tb { D with nx := N, ct := N, bk := D.nx } σ2 H2) := by
  refine ⟨fun i m σ H => m = xs.length - i ∧ i ≤ xs.length ∧ Pv i σ H, ⟨xs.length, by simp, Nat.zero_le _, h0⟩, ?_⟩
  rintro i m σ H ⟨rfl, hi, p⟩
  have q := hl i σ H hi p
  by_cases hlt : i < xs.length
  · refine .inr ⟨⟨xs, xs[i], q, by simp [hlt]⟩, Pv (i + 1), fun σ' H' p' => ⟨xs.length - (i + 1), by omega, rfl, hlt, p'⟩, fun x H' y => ?_⟩
    obtain ⟨e, y⟩ := y
    subst e
    exact hs i x σ _ (y xs q) p
  · have e : i = xs.length := by omega
    subst e
    exact .inl ⟨⟨xs, q, Nat.le_refl _⟩, hd σ H p⟩
theorem for_range {lo : Int} {n : Nat} {g : TG} {tb : TS} {D : Ends} {σ : St} {H : Hp} (Pv : Nat → St → Hp → Prop) (h0 : Pv 0 σ H)
    (hs : ∀ i σ H, i < n → Pv i σ H → g (.int (lo + i)) σ H fun σ2 H2 => tb { D with nx := Pv (i + 1), ct := Pv (i + 1), bk := D.nx } σ2 H2) (hd : ∀ σ H, Pv n σ H → D.nx σ H) :
    ∃ W : Nat → Nat → St → Hp → Prop, (∃ m, W 0 m σ H) ∧ ∀ i m σ H, W i m σ H →
      ((Itr lo n).stop i H ∧ D.nx σ H) ∨ ((Itr lo n).go i H ∧ ∃ N : St → Hp → Prop, (∀ σ' H', N σ' H' → ∃ m', m' < m ∧ W (i + 1) m' σ' H') ∧ ∀ x H', (Itr lo n).yld i H x H' → g x σ H' fun σ2 H2 => tb { D with nx := N, ct := N, bk := D.nx } σ2 H2) := by
  refine ⟨fun i m σ H => m = n - i ∧ i ≤ n ∧ Pv i σ H, ⟨n, by simp, Nat.zero_le _, h0⟩, ?_⟩
  rintro i m σ H ⟨rfl, hi, p⟩
  by_cases hlt : i < n
  · refine .inr ⟨hlt, Pv (i + 1), fun σ' H' p' => ⟨n - (i + 1), by omega, rfl, hlt, p'⟩, fun x H' y => ?_⟩
    obtain ⟨e, y⟩ := y
    subst e y
    exact hs i σ _ hlt p
  · have e : i = n := by omega
    subst e
    exact .inl ⟨Nat.le_refl _, hd σ H p⟩
end L2

namespace L2
open PySem PySem.Spec PyProof.Rows

abbrev R2 := V → V → Hp → VK → Prop
def OpR (X : Cx) (f : Value → Value → Sem Value) (r : R2) : Prop :=
  ∀ (pins : List (Addr × Obj)) (s : Shared) (σ : St) (H : Hp) (x y : V) (v u : Value) (Q : VK), Inv X pins σ H s → RelV x v → RelV y u → r x y H Q →
    wpAny (model X.prog X.w) X.A (f v u) (EP X pins σ Q) X.xe s
def UnR (X : Cx) (f : Value → Sem Value) (r : V → Hp → VK → Prop) : Prop :=
  ∀ (pins : List (Addr × Obj)) (s : Shared) (σ : St) (H : Hp) (x : V) (v : Value) (Q : VK), Inv X pins σ H s → RelV x v → r x H Q →
    wpAny (model X.prog X.w) X.A (f v) (EP X pins σ Q) X.xe s
def CallR (X : Cx) (f : Value) (r : List V → Hp → VK → Prop) : Prop :=
  ∀ (pins : List (Addr × Obj)) (s : Shared) (σ : St) (H : Hp) (xs : List V) (us : List Value) (Q : VK), Inv X pins σ H s → Vals xs us → r xs H Q →
    wpAny (model X.prog X.w) X.A (call f us) (EP X pins σ Q) X.xe s
def TruR (X : Cx) (r : V → Hp → (Bool → Hp → Prop) → Prop) : Prop :=
  ∀ (pins : List (Addr × Obj)) (s : Shared) (σ : St) (H : Hp) (x : V) (v : Value) (Q : Bool → Hp → Prop), Inv X pins σ H s → RelV x v → r x H Q →
    wpAny (model X.prog X.w) X.A (truthy v) (TP X pins σ Q) X.xe s

def tOp (r : R2) (ta tb : TE) : TE := fun σ H Q => ta σ H fun x H1 => tb σ H1 fun y H2 => r x y H2 Q
def tUn (r : V → Hp → VK → Prop) (ta : TE) : TE := fun σ H Q => ta σ H fun x H1 => r x H1 Q
def rI (C : Int → Int → Prop) (g : Int → Int → V) : R2 := fun x y H Q => ∃ i j, x = .int i ∧ y = .int j ∧ C i j ∧ Q (g i j) H
def rI0 (g : Int → Int → V) : R2 := fun x y H Q => ∃ i j, x = .int i ∧ y = .int j ∧ Q (g i j) H
def rU (g : Int → V) : V → Hp → VK → Prop := fun x H Q => ∃ i, x = .int i ∧ Q (g i) H

section
variable {X : Cx} {a b c : Expr} {ta tb tc : TE} {pos : Pos}

theorem binT (ha : PE X a ta) (hb : PE X b tb) {pins : List (Addr × Obj)} {s : Shared} {σ : St} {H : Hp} {R : V → V → Hp → Prop} (I : Inv X pins σ H s)
    (h : ta σ H fun x H1 => tb σ H1 fun y H2 => R x y H2) {Q : Value → Shared → Prop} {f : Value → Value → Sem Value}
    (hf : ∀ v u s2 x y H2, Inv X pins σ H2 s2 → RelV x v → RelV y u → R x y H2 → wpAny (model X.prog X.w) X.A (f v u) Q X.xe s2) :
    wpAny (model X.prog X.w) X.A (eval a X.env) (fun v s₁ => wpAny (model X.prog X.w) X.A (eval b X.env) (fun u s₂ => wpAny (model X.prog X.w) X.A (f v u) Q X.xe s₂) X.xe s₁) X.xe s := by
  refine thn (ha pins s σ H _ I h) fun v s1 ⟨x, H1, I1, r1, q1⟩ => ?_
  refine thn (hb pins s1 σ H1 _ I1 q1) fun u s2 ⟨y, H2, I2, r2, q2⟩ => ?_
  exact hf v u s2 x y H2 I2 r1 r2 q2

theorem pe_op {op : Operator} {r : R2} (ho : OpR X (binaryOp op) r) (ha : PE X a ta) (hb : PE X b tb) : PE X (.BinOp a op b pos) (tOp r ta tb) := by
  intro pins s σ H Q I h
  exact wpAny_BinOp (binT ha hb I h fun v u s2 x y H2 I2 rx ry q => ho pins s2 σ H2 x y v u Q I2 rx ry q)
theorem opI {f : Value → Value → Sem Value} {C : Int → Int → Prop} {g : Int → Int → Int}
    (rule : ∀ (i j : Int) (t u : Tok) (s : Shared) (Q : Value → Shared → Prop) (E : Value → Shared → Prop), C i j → Q (.int (g i j) s.toks) { s with toks := s.toks + 1 } → wpAny (model X.prog X.w) X.A (f (.int i t) (.int j u)) Q E s) :
    OpR X f (rI C fun i j => .int (g i j)) := by
  intro pins s σ H x y v u Q I rx ry h
  obtain ⟨i, j, rfl, rfl, hc, q⟩ := h
  obtain ⟨t, rfl⟩ := rx
  obtain ⟨t', rfl⟩ := ry
  exact rule i j t t' s _ _ hc ⟨.int (g i j), H, I.tok _, ⟨_, rfl⟩, q⟩
theorem opI0 {f : Value → Value → Sem Value} {g : Int → Int → Int}
    (rule : ∀ (i j : Int) (t u : Tok) (s : Shared) (Q : Value → Shared → Prop) (E : Value → Shared → Prop), Q (.int (g i j) s.toks) { s with toks := s.toks + 1 } → wpAny (model X.prog X.w) X.A (f (.int i t) (.int j u)) Q E s) :
    OpR X f (rI0 fun i j => .int (g i j)) := by
  intro pins s σ H x y v u Q I rx ry h
  obtain ⟨i, j, rfl, rfl, q⟩ := h
  obtain ⟨t, rfl⟩ := rx
  obtain ⟨t', rfl⟩ := ry
  exact rule i j t t' s _ _ ⟨.int (g i j), H, I.tok _, ⟨_, rfl⟩, q⟩
theorem opB0 {f : Value → Value → Sem Value} {g : Int → Int → Bool}
    (rule : ∀ (i j : Int) (t u : Tok) (s : Shared) (Q : Value → Shared → Prop) (E : Value → Shared → Prop), Q (.bool (g i j)) s → wpAny (model X.prog X.w) X.A (f (.int i t) (.int j u)) Q E s) :
    OpR X f (rI0 fun i j => .bl (g i j)) := by
  intro pins s σ H x y v u Q I rx ry h
  obtain ⟨i, j, rfl, rfl, q⟩ := h
  obtain ⟨t, rfl⟩ := rx
  obtain ⟨t', rfl⟩ := ry
  exact rule i j t t' s _ _ ⟨.bl (g i j), H, I, rfl, q⟩

def CDiv (i j : Int) : Prop := 0 < j ∧ j < 1073741824
def CDivN (i j : Int) : Prop := j ≠ 0 ∧ j.natAbs < 1073741824
def CPow (i j : Int) : Prop := 0 ≤ j ∧ j ≤ 1000000 ∧ i.natAbs < 2 ^ 64
def CMul (i j : Int) : Prop := (-(2 ^ 64) < i ∧ i < 2 ^ 64) ∨ (-(2 ^ 64) < j ∧ j < 2 ^ 64)
theorem op_add : OpR X (binaryOp .Add) (rI0 fun i j => .int (i + j)) := opI0 fun _ _ _ _ _ _ _ q => add_int q
theorem op_sub : OpR X (binaryOp .Sub) (rI0 fun i j => .int (i - j)) := opI0 fun _ _ _ _ _ _ _ q => sub_int q
theorem op_mod : OpR X (binaryOp .Mod) (rI (fun _ j => 0 < j) fun i j => .int (i % j)) := opI fun i j _ _ _ _ _ hc q => by
  have h1 : (0 : Int) < j := hc
  exact mod_int' (by omega) (by rw [Int.fmod_eq_emod_of_nonneg i (by omega)]; exact q)
theorem op_pow : OpR X (binaryOp .Pow) (rI CPow fun i j => .int (i ^ j.toNat)) := opI fun _ _ _ _ _ _ _ hc q => pow_int_small hc.1 hc.2.1 hc.2.2 q
end

def scal : V → V → Bool
  | .non, .non => true | .non, .int _ => true | .int _, .non => true | .non, .bl _ => true | .bl _, .non => true | .non, .str _ => true | .str _, .non => true
  | .int _, .int _ => true | .bl _, .bl _ => true | .str _, .str _ => true | .byt _, .byt _ => true
  | .int _, .str _ => true | .str _, .int _ => true | .bl _, .str _ => true | .str _, .bl _ => true
  | _, _ => false
def rEq : R2 := fun x y H Q => scal x y = true ∧ Q (.bl (decide (x = y))) H
def rNe : R2 := fun x y H Q => scal x y = true ∧ Q (.bl (!decide (x = y))) H

theorem dec_int {i j : Int} : decide (V.int i = V.int j) = (i == j) := by
  rw [Bool.eq_iff_iff]
  simp
theorem dec_bl {i j : Bool} : decide (V.bl i = V.bl j) = (i == j) := by
  rw [Bool.eq_iff_iff]
  simp
theorem dec_str {i j : Str} : decide (V.str i = V.str j) = (i == j) := by
  rw [Bool.eq_iff_iff]
  simp
theorem dec_byt {i j : Array UInt8} : decide (V.byt i = V.byt j) = (i.toList == j.toList) := by
  rw [Bool.eq_iff_iff]
  cases i
  cases j
  simp

section
variable {X : Cx} {a b c : Expr} {ta tb tc : TE} {pos : Pos}
theorem fin_bl {pins : List (Addr × Obj)} {σ : St} {H : Hp} {s : Shared} {Q : VK} {k k' : Bool} (I : Inv X pins σ H s) (q : Q (.bl k) H) (e : k = k') : EP X pins σ Q (.bool k') s := by
  subst e
  exact ⟨.bl k, H, I, rfl, q⟩
theorem op_eq : OpR X (compareOp .Eq) rEq := by
  intro pins s σ H x y v u Q I rx ry h
  obtain ⟨hs, q⟩ := h
  cases x with
  | non =>
    cases rx
    cases y with
    | non => cases ry; exact PySem.EqNone.eq_none_none (fin_bl I q (by simp))
    | bl j => cases ry; exact PySem.EqNone.eq_none_bool (fin_bl I q (by simp))
    | int j => obtain ⟨t', rfl⟩ := ry; exact PySem.EqNone.eq_none_int (fin_bl I q (by simp))
    | str j => obtain ⟨t', rfl⟩ := ry; exact PySem.EqNone.eq_none_str (fin_bl I q (by simp))
    | _ => exact absurd (show false = true from hs) Bool.false_ne_true
  | bl i =>
    cases rx
    cases y with
    | non => cases ry; exact PySem.EqNone.eq_bool_none (fin_bl I q (by simp))
    | bl j => cases ry; exact eq_bool (fin_bl I q dec_bl)
    | str j => obtain ⟨t', rfl⟩ := ry; exact PySem.EqMixed.eq_bool_str (fin_bl I q (by simp))
    | _ => exact absurd (show false = true from hs) Bool.false_ne_true
  | int i =>
    obtain ⟨t, rfl⟩ := rx
    cases y with
    | non => cases ry; exact PySem.EqNone.eq_int_none (fin_bl I q (by simp))
    | int j => obtain ⟨t', rfl⟩ := ry; exact eq_int (fin_bl I q dec_int)
    | str j => obtain ⟨t', rfl⟩ := ry; exact PySem.EqMixed.eq_int_str (fin_bl I q (by simp))
    | _ => exact absurd (show false = true from hs) Bool.false_ne_true
  | str i =>
    obtain ⟨t, rfl⟩ := rx
    cases y with
    | non => cases ry; exact PySem.EqNone.eq_str_none (fin_bl I q (by simp))
    | bl j => cases ry; exact PySem.EqMixed.eq_str_bool (fin_bl I q (by simp))
    | int j => obtain ⟨t', rfl⟩ := ry; exact PySem.EqMixed.eq_str_int (fin_bl I q (by simp))
    | str j => obtain ⟨t', rfl⟩ := ry; exact eq_str (fin_bl I q dec_str)
    | _ => exact absurd (show false = true from hs) Bool.false_ne_true
  | byt i =>
    obtain ⟨t, rfl⟩ := rx
    cases y with
    | byt j => obtain ⟨t', rfl⟩ := ry; exact PySem.W.eq_bytes (fin_bl I q dec_byt)
    | _ => exact absurd (show false = true from hs) Bool.false_ne_true
  | _ => cases y <;> exact absurd (show false = true from hs) Bool.false_ne_true
theorem op_lt : OpR X (compareOp .Lt) (rI0 fun i j => .bl (decide (i < j))) := opB0 fun _ _ _ _ _ _ _ q => lt_int q
theorem op_le : OpR X (compareOp .LtE) (rI0 fun i j => .bl (decide (i ≤ j))) := opB0 fun _ _ _ _ _ _ _ q => le_int q
theorem op_gt : OpR X (compareOp .Gt) (rI0 fun i j => .bl (decide (j < i))) := opB0 fun _ _ _ _ _ _ _ q => gt_int q
theorem op_ge : OpR X (compareOp .GtE) (rI0 fun i j => .bl (decide (j ≤ i))) := opB0 fun _ _ _ _ _ _ _ q => ge_int q
theorem op_isN : OpR X (compareOp .Is) (fun x y H Q => y = .non ∧ Q (.bl (decide (x = .non))) H) := by
  intro pins s σ H x y v u Q I rx ry h
  obtain ⟨rfl, q⟩ := h
  cases ry
  refine is_none_gen (fin_bl I q ?_)
  cases x <;> first
    | (cases rx; rfl)
    | (obtain ⟨t, rfl⟩ := rx; rfl)
theorem op_notN : OpR X (compareOp .IsNot) (fun x y H Q => y = .non ∧ Q (.bl (!decide (x = .non))) H) := by
  intro pins s σ H x y v u Q I rx ry h
  obtain ⟨rfl, q⟩ := h
  cases ry
  refine isnot_none_gen (fin_bl I q ?_)
  cases x <;> first
    | (cases rx; rfl)
    | (obtain ⟨t, rfl⟩ := rx; rfl)

def isObj : HO → Bool
  | .lst _ => true
  | .ins _ _ _ => true
  | _ => false
theorem nomark (b : Expr) {op : CmpOp} (h : op ≠ .In := by decide) (h2 : op ≠ .NotIn := by decide) : behindInMarks op b = false := by
  have e1 : (op == CmpOp.In) = false := by cases op <;> first | rfl | exact absurd rfl h
  have e2 : (op == CmpOp.NotIn) = false := by cases op <;> first | rfl | exact absurd rfl h2
  cases b <;> simp [behindInMarks, e1, e2]
theorem pe_cmpR {op : CmpOp} {r : R2} (ho : OpR X (compareOp op) r) (ha : PE X a ta) (hb : PE X b tb) (hm : behindInMarks op b = false) : PE X (.Compare a [op] [b] pos) (tOp r ta tb) := by
  intro pins s σ H Q I h
  exact wpAny_Compare1 (binT ha hb I h fun v u s2 x y H2 I2 rx ry q => ho pins s2 σ H2 x y v u Q I2 rx ry q) hm
def tTest (t : TE) : TT := fun σ H Q => t σ H fun x H' => ∃ k, x = .bl k ∧ Q k H'
theorem pt_cmpR {op : CmpOp} {r : R2} (ho : OpR X (compareOp op) r) (ha : PE X a ta) (hb : PE X b tb) (hm : behindInMarks op b = false) : PT X (.Compare a [op] [b] pos) (tTest (tOp r ta tb)) := by
  intro pins s σ H Q I h
  refine wpAny_isTrue_Compare1 (thn (ha pins s σ H _ I h) fun v s1 ⟨x, H1, I1, r1, q1⟩ => thn (hb pins s1 σ H1 _ I1 q1) fun u s2 ⟨y, H2, I2, r2, q2⟩ =>
    thn (ho pins s2 σ H2 x y v u _ I2 r1 r2 q2) fun c s3 ⟨z, H3, I3, r3, k, e, q3⟩ => ?_) hm
  subst e
  cases r3
  exact wpAny_truthy_bool ⟨H3, I3, q3⟩
def tChain (r r' : R2) (ta tb tc : TE) : TE := fun σ H Q => ta σ H fun x H1 => tb σ H1 fun y H2 => r x y H2 fun z H3 => ∃ k, z = .bl k ∧
  (if k = true then tc σ H3 fun w' H4 => r' y w' H4 Q else Q (.bl false) H3)
def TruV (K : PySem.W.Frag) (x : V) (H : Hp) (k : Bool) : Prop :=
  match x with
  | .non => k = false
  | .bl b => k = b
  | .int i => k = (i != 0)
  | .str y => y.length ≤ sizeLine ∧ k = ((y.length : Int) != 0)
  | .byt y => y.size ≤ sizeLine ∧ k = ((y.size : Int) != 0)
  | .ref p => (∃ xs, SqL K H p xs ∧ k = !xs.isEmpty) ∨ (∃ xs, SqT K H p xs ∧ k = !xs.isEmpty) ∨ ∃ kvs, H p = some (.dK kvs) ∧ k = !kvs.isEmpty
  | _ => False
theorem isEmpty_kv {κ : Type} {kvs : List (κ × V)} {vs : List (κ × Value)} (r : KV kvs vs) : (!vs.isEmpty) = !kvs.isEmpty := by
  cases r <;> rfl
theorem isEmpty_of {xs : List V} {its : List Value} (r : Vals xs its) : (!its.toArray.isEmpty) = !xs.isEmpty := by
  cases r <;> simp
theorem line63 : (sizeLine : Nat) < 2 ^ 63 := by rw [sizeLine_eq]; decide
theorem tru_ok : TruR X (fun x H Q => ∃ k, TruV X.K x H k ∧ Q k H) := by
  intro pins s σ H x v Q I rx h
  obtain ⟨k, e, q⟩ := h
  have hl := line63
  have hs : sizeLine = 16777216 := sizeLine_eq
  cases x with
  | non =>
    cases rx
    have e' : k = false := e
    subst e'
    exact truthy_none ⟨H, I, q⟩
  | bl b =>
    cases rx
    have e' : k = b := e
    subst e'
    exact wpAny_truthy_bool ⟨H, I, q⟩
  | int i =>
    obtain ⟨t, rfl⟩ := rx
    have e' : k = (i != 0) := e
    subst e'
    exact PySem.P.truthy_int ⟨H, I, q⟩
  | str y =>
    obtain ⟨t, rfl⟩ := rx
    obtain ⟨hy, e'⟩ : y.length ≤ sizeLine ∧ k = ((y.length : Int) != 0) := e
    subst e'
    exact PySem.P.truthy_str (by omega) ⟨H, I.tok _, q⟩
  | byt y =>
    obtain ⟨t, rfl⟩ := rx
    obtain ⟨hy, e'⟩ : y.size ≤ sizeLine ∧ k = ((y.size : Int) != 0) := e
    subst e'
    exact PySem.W.truthy_bytes (by omega) ⟨H, I.tok _, q⟩
  | ref p =>
    cases rx
    have e' : (∃ xs, SqL X.K H p xs ∧ k = !xs.isEmpty) ∨ (∃ xs, SqT X.K H p xs ∧ k = !xs.isEmpty) ∨ ∃ kvs, H p = some (.dK kvs) ∧ k = !kvs.isEmpty := e
    rcases e' with ⟨xs, hx, e'⟩ | ⟨xs, hx, e'⟩ | ⟨kvs, hx, e'⟩
    · subst e'
      obtain ⟨its, r, pl, hz⟩ := I.list hx
      have hlen := r.length
      exact wpAny_truthy_list pl.isList (by simp only [List.size_toArray]; omega) ⟨H, I.tok _, by rw [isEmpty_of r]; exact q⟩
    · subst e'
      obtain ⟨its, r, pl, hz⟩ := I.tuple hx
      have hlen := r.length
      exact truthy_tuple pl (by simp only [List.size_toArray]; omega) ⟨H, I.tok _, by rw [isEmpty_of r]; exact q⟩
    · subst e'
      obtain ⟨hz, hS, vs, r, m⟩ : kvs.length ≤ sizeLine ∧ (p == sysModules) = false ∧ ∃ vs, KV kvs vs ∧ s.heap.DictOf (mixKind X.prog X.w) p vs := I.hok p _ hx
      have hlen : kvs.length = vs.length := Paired.length r
      exact wpAny_truthy_dict hS m (by omega) ⟨H, I.tok _, by rw [isEmpty_kv r]; exact q⟩
  | _ => exact (show False from e).elim
theorem pt_truth (ha : PE X a ta) (he : ∀ whole, isTrue a X.env whole = (do let v ← whole; standAt a.pos; holding [v] (truthy v))) :
    PT X a (fun σ H Q => ta σ H fun x H' => ∃ k, TruV X.K x H' k ∧ Q k H') := by
  intro pins s σ H Q I h
  exact isTrue_plain (thn (ha pins s σ H _ I h) fun v s1 ⟨x, H1, I1, r1, q1⟩ => tru_ok pins s1 σ H1 x v Q I1 r1 q1) (he _)

theorem op_add_str : OpR X (binaryOp .Add) (fun x y H Q => ∃ i j, x = .str i ∧ y = .str j ∧ i.length + j.length ≤ sizeLine ∧ Q (.str (i ++ j)) H) := by
  intro pins s σ H x y v u Q I rx ry h
  obtain ⟨i, j, rfl, rfl, hz, q⟩ := h
  obtain ⟨t, rfl⟩ := rx
  obtain ⟨t', rfl⟩ := ry
  exact add_str (fun t' tk => ⟨.str (i ++ j), H, I.tok _, ⟨_, rfl⟩, q⟩) hz
def PlainIxT (b : Expr) : Prop := ∀ o i, subscripted b false o i = operate [o, i] (getItem o i)
theorem vals1 {x : V} {us : List Value} (r : Vals [x] us) : ∃ u, us = [u] ∧ RelV x u := by
  cases r with
  | cons r1 r2 => cases r2; exact ⟨_, rfl, r1⟩
theorem vals2 {x y : V} {us : List Value} (r : Vals [x, y] us) : ∃ u w', us = [u, w'] ∧ RelV x u ∧ RelV y w' := by
  cases r with
  | cons r1 r2 =>
    cases r2 with
    | cons r3 r4 => cases r4; exact ⟨_, _, rfl, r1, r3⟩
theorem call_max2 (hc : X.calm = true) : CallR X (.builtin "max") (fun xs H Q => ∃ i j, xs = [.int i, .int j] ∧ Q (.int (if j > i then j else i)) H) := by
  intro pins s σ H xs us Q I r h
  obtain ⟨i, j, rfl, q⟩ := h
  obtain ⟨u, w', rfl, ⟨t, rfl⟩, ⟨t', rfl⟩⟩ := vals2 r
  refine max_two_ints (I.ok.hd hc) fun h' tk k => ⟨_, H, I.kept k, ?_, q⟩
  by_cases hj : j > i
  · rw [if_pos hj, if_pos hj]; exact ⟨_, rfl⟩
  · rw [if_neg hj, if_neg hj]; exact ⟨_, rfl⟩
theorem call_min2 (hc : X.calm = true) : CallR X (.builtin "min") (fun xs H Q => ∃ i j, xs = [.int i, .int j] ∧ Q (.int (if j < i then j else i)) H) := by
  intro pins s σ H xs us Q I r h
  obtain ⟨i, j, rfl, q⟩ := h
  obtain ⟨u, w', rfl, ⟨t, rfl⟩, ⟨t', rfl⟩⟩ := vals2 r
  refine min_two_ints (I.ok.hd hc) fun h' tk k => ⟨_, H, I.kept k, ?_, q⟩
  by_cases hj : j < i
  · rw [if_pos hj, if_pos hj]; exact ⟨_, rfl⟩
  · rw [if_neg hj, if_neg hj]; exact ⟨_, rfl⟩
theorem call_str_int : CallR X (.type "str") (fun xs H Q => ∃ i, xs = [.int i] ∧ i.natAbs.log2 < 1920 ∧ Q (.str (toString i)) H) := by
  intro pins s σ H xs us Q I r h
  obtain ⟨i, rfl, hz, q⟩ := h
  obtain ⟨u, rfl, t, rfl⟩ := vals1 r
  exact PySem.P.str_of_int hz ⟨.str _, H, I.tok _, ⟨_, rfl⟩, q⟩
def LenV (K : PySem.W.Frag) (x : V) (H : Hp) (n : Nat) : Prop :=
  match x with
  | .str y => y.length ≤ sizeLine ∧ n = y.length
  | .byt y => y.size ≤ sizeLine ∧ n = y.size
  | .ref p => (∃ xs, SqL K H p xs ∧ n = xs.length) ∨ ∃ xs, SqT K H p xs ∧ n = xs.length
  | _ => False
end
end L2

namespace L2
open PySem PySem.Spec PyProof.Rows

structure ObjM (h : Heap) (x dx C : Addr) (mA : Str → Option Value) : Prop where
  obj : h.get? x = some (PySem.W.instObj C dx)
  ns : h.Ns1 dx mA
  ne : dx ≠ x

theorem lookIn_ns {h : Heap} {dx : Addr} {mA : Str → Option Value} (n : h.Ns1 dx mA) : ∃ od, h.get? dx = some od ∧ ∀ name, PySem.W.lookIn name od = some (mA name) := by
  obtain ⟨o, es, ep, ho, hd, hk, _, hm⟩ := n
  refine ⟨o, ho, fun name => ?_⟩
  have e := hm name
  unfold nsFind findBy at e
  rw [← Array.find?_toList] at e
  unfold PySem.W.lookIn
  rw [hd]
  dsimp only
  split
  · rename_i y q
    rw [q] at e
    exact congrArg some e
  · rename_i q
    rw [q] at e
    have a : es.toList.any (·.refKey) = false := by
      rw [List.any_eq_false]
      intro y hy
      obtain ⟨z, t, hkey⟩ := hk y (Array.mem_toList_iff.mp hy)
      simp [DictEntry.refKey, hkey]
    have a' : ¬ es.toList.any (·.refKey) = true := by rw [a]; exact Bool.false_ne_true
    rw [if_neg a']
    exact congrArg some e

theorem ObjM.look {h : Heap} {x dx C : Addr} {mA : Str → Option Value} (I : ObjM h x dx C mA) : ∃ od, PySem.W.InstAt h x (PySem.W.instObj C dx) C (some od) ∧ ∀ name, PySem.W.lookIn name od = some (mA name) :=
  let ⟨od, ho, hl⟩ := lookIn_ns I.ns
  ⟨od, ⟨I.obj, rfl, rfl, ho⟩, hl⟩

section
variable {prog : Program} {w : World} {A : Around} {E : Value → Shared → Prop} {s : Shared} {K : PySem.W.Frag} {x dx C f : Addr} {mA : Str → Option Value} {name : Str} {v : Value}

theorem get_map {expr : Bool} {Q : Value → Shared → Prop} (X : K.In s.heap) (I : ObjM s.heap x dx C mA) (hg : PySem.W.plainGet K C name = true) (hh : PySem.W.hasDictIn K C = true)
    (ha : PySem.W.findIn K (.ref C) name = some none) (hv : mA name = some v) (hv' : PySem.W.handedIn v = true) (h : Q v { s with toks := s.toks + 1 }) :
    wpAny (model prog w) A (getAttr (.ref x) name expr) Q E s := by
  obtain ⟨od, J, hl⟩ := I.look
  exact PySem.W.get_value X J (PySem.W.plainGet_of hg).1 (PySem.W.findObj_own hh ha rfl (by rw [hl, hv])) hv' h

theorem get_meth {pl : Sem Bool} {Q : Value × List Value → Shared → Prop} (X : K.In s.heap) (I : ObjM s.heap x dx C mA) (hg : PySem.W.plainGet K C name = true)
    (hf : PySem.W.findIn K (.ref C) name = some (some (.ref f))) (ht : PySem.W.isFn K (.ref f) = true) (hv : mA name = none) (h : Q (.ref f, [.ref x]) s) :
    wpAny (model prog w) A (getMethod (.ref x) name pl) Q E s := by
  obtain ⟨od, J, hl⟩ := I.look
  exact PySem.W.method_fn X J (PySem.W.plainGet_of hg).1 (PySem.W.plainGet_of hg).2 hf (beq_iff_eq.mp ht) (by show (PySem.W.lookIn name od).map (·.isSome) = some false; rw [hl, hv]; rfl) h

theorem set_map {ns : List Str} {Q : Unit → Shared → Prop} (X : K.In s.heap) (I : ObjM s.heap x dx C mA)
    (hs : PySem.W.findIn K (.ref C) "__setattr__" = some (some (.builtin "object.__setattr__"))) (hp : PySem.W.plainOver K C = true) (ht : PySem.W.takerIn K C name = some none) (hh : PySem.W.hasDictIn K C = true)
    (hw : PySem.Within mA ns) (hsz : ns.length ≤ sizeLine)
    (h : ∀ h', ObjM h' x dx C (fun y => if y = name then some v else mA y) → Heap.SameBut dx s.heap h' → Q () { s with heap := h', toks := s.toks + 2 }) :
    wpAny (model prog w) A (setAttr (.ref x) name v) Q E s := by
  obtain ⟨od, J, hl⟩ := I.look
  refine PySem.W.set_plain X J hs (PySem.W.osa_open (s := { s with toks := s.toks + 1 }) (r := none) X J hp ht fun b => ?_)
  obtain ⟨cd, hc, hd'⟩ := PySem.W.any_some hh
  have hx : s.heap.get? x = some ⟨.ref C, some dx, .plain, #[]⟩ := I.obj
  refine wpAny_bind (wpAny_pure (wpAny_bind (wpAny_bind (wpAny_loadPart hx (wpAny_bind (PySem.W.Looks.here (s := { s with toks := s.toks + 1 }) (PySem.W.looks_clsIn X hc) ?_))))))
  rw [hd']
  refine wpAny_pure (a := some dx) (wpAny_bind (wpAny_pure (wpAny_bind ?_)))
  refine wpAny_nsSet1 (s := { s with toks := s.toks + 1 }) I.ns fun h' hn2 hs2 => ?_
  obtain ⟨oD, esD, epD, hoD, hdD, hcD⟩ := hn2.count (PySem.Within.cons name v hw)
  refine wpAny_bind (wpAny_lookBehind hoD (by rw [hdD]; exact pastItsLine_dict (Nat.le_trans hcD (by rw [List.length_cons]; omega))) ?_)
  exact wpAny_pure (h _ ⟨(hs2.2 _ (Ne.symm I.ne)).trans I.obj, hn2, I.ne⟩ hs2)

theorem make_map {R : Result → Shared → Prop} {vs : List Value} {kw : List (Str × Value)} (X : K.In s.heap) (hm : PySem.W.makesIn K C = true)
    (hi : PySem.W.findIn K (.ref C) "__init__" = some (some (.ref f))) (hf : PySem.W.typeIn K (.ref f) = some (.type "function"))
    (h : codeAny (model prog w) (A.under (.builtin "type.__call__" ⟨.ref C :: vs, kw⟩)) (.call (.ref f) ⟨.ref (s.heap.objs.size + 1) :: vs, kw⟩) (PySem.W.InitBack (s.heap.objs.size + 1) R)
      { s with heap := (s.heap.push PySem.W.emptyDict).push (PySem.W.instObj C s.heap.objs.size) }) :
    codeAny (model prog w) A (.call (.ref C) ⟨vs, kw⟩) R s := by
  obtain ⟨hh, g, d, t, os⟩ := s
  exact PySem.W.make_core (PySem.W.makes_of X hm) (PySem.W.looks_findIn X hi) (fun self => PySem.W.bind_fn X self hf) (.inl rfl) h
end

def putF (f : Str) (v : V) : List (Str × V) → List (Str × V)
  | [] => [(f, v)]
  | (g, x) :: r => if g = f then (g, v) :: r else (g, x) :: putF f v r
theorem lookup_putF (f g : Str) (v : V) : ∀ fs : List (Str × V), (putF f v fs).lookup g = if g = f then some v else fs.lookup g
  | [] => by
    show List.lookup g [(f, v)] = _
    by_cases h : g = f
    · have hb : (g == f) = true := beq_iff_eq.mpr h
      simp only [List.lookup, hb, if_pos h]
    · have hb : (g == f) = false := beq_eq_false_iff_ne.mpr h
      simp only [List.lookup, hb, if_neg h]
  | (k, x) :: r => by
    have ih := lookup_putF f g v r
    rw [show putF f v ((k, x) :: r) = (if k = f then (k, v) :: r else (k, x) :: putF f v r) from rfl]
    by_cases hk : k = f
    · rw [if_pos hk]
      by_cases h : g = k
      · have hb : (g == k) = true := beq_iff_eq.mpr h
        simp only [List.lookup, hb, if_pos (h.trans hk)]
      · have hb : (g == k) = false := beq_eq_false_iff_ne.mpr h
        simp only [List.lookup, hb, if_neg (fun e : g = f => h (e.trans hk.symm))]
    · rw [if_neg hk]
      by_cases h : g = k
      · have hb : (g == k) = true := beq_iff_eq.mpr h
        simp only [List.lookup, hb, if_neg (fun e : g = f => hk (h.symm.trans e))]
      · have hb : (g == k) = false := beq_eq_false_iff_ne.mpr h
        simp only [List.lookup, hb]
        exact ih
theorem keys_putF (f : Str) (v : V) : ∀ fs : List (Str × V), f ∈ (putF f v fs).map (·.1) ∧ ∀ g, g ∈ fs.map (·.1) → g ∈ (putF f v fs).map (·.1)
  | [] => ⟨by simp [putF], fun g h => by simp at h⟩
  | (k, x) :: r => by
    obtain ⟨i1, i2⟩ := keys_putF f v r
    rw [show putF f v ((k, x) :: r) = (if k = f then (k, v) :: r else (k, x) :: putF f v r) from rfl]
    by_cases hk : k = f
    · rw [if_pos hk]
      subst hk
      exact ⟨by simp, fun g h => by simpa using h⟩
    · rw [if_neg hk]
      refine ⟨?_, fun g h => ?_⟩
      · rw [List.map_cons]
        exact List.mem_cons_of_mem _ i1
      · rw [List.map_cons] at h ⊢
        rcases List.mem_cons.mp h with e | e
        · exact List.mem_cons.mpr (.inl e)
        · exact List.mem_cons_of_mem _ (i2 g e)
theorem length_putF (f : Str) (v : V) : ∀ fs : List (Str × V), (putF f v fs).length ≤ fs.length + 1
  | [] => by simp [putF]
  | (k, x) :: r => by
    have ih := length_putF f v r
    rw [show putF f v ((k, x) :: r) = (if k = f then (k, v) :: r else (k, x) :: putF f v r) from rfl]
    by_cases hk : k = f
    · rw [if_pos hk, List.length_cons, List.length_cons]; omega
    · rw [if_neg hk, List.length_cons, List.length_cons]; omega

theorem RelO.some_of {v : V} {o : Option Value} (r : RelO (some v) o) : ∃ u, o = some u ∧ RelV v u := by
  cases o with
  | none => exact (show False from r).elim
  | some u => exact ⟨u, rfl, r⟩
theorem RelO.none_of {o : Option Value} (r : RelO none o) : o = none := by
  cases o with
  | none => rfl
  | some u => exact (show False from r).elim
theorem handed_of {v : V} {u : Value} (r : RelV v u) : PySem.W.handedIn u = true := by
  cases v with
  | non => cases (show u = Value.none from r); rfl
  | bl b => cases (show u = Value.bool b from r); rfl
  | int i => obtain ⟨t, e⟩ := (show ∃ t, u = Value.int i t from r); cases e; rfl
  | str x => obtain ⟨t, e⟩ := (show ∃ t, u = Value.str x t from r); cases e; rfl
  | byt b => obtain ⟨t, e⟩ := (show ∃ t, u = Value.bytes b t from r); cases e; rfl
  | flt b => obtain ⟨t, e⟩ := (show ∃ t, u = Value.float b t from r); cases e; rfl
  | ref a => cases (show u = Value.ref a from r); rfl
  | ty n => cases (show u = Value.type n from r); rfl

section
variable {P : Program} {w : World} {H H' : Hp} {h h' : Heap} {a C dx : Addr} {fs fs' : List (Str × V)}
theorem ins_get (hok : HOk P w H h) (e : H a = some (.ins C dx fs)) : ∃ mA, ObjM h a dx C mA ∧ (∀ f, RelO (fs.lookup f) (mA f)) ∧ PySem.Within mA (fs.map (·.1)) ∧ fs.length ≤ 1000 ∧ H dx = some (.own a) := by
  obtain ⟨d, z, ne, ob, mA, n, r, q⟩ := (show ObjOk P w H h a (.ins C dx fs) from hok a _ e)
  exact ⟨mA, ⟨ob, n, ne⟩, r, q, z, d⟩
end

structure Cls (K : PySem.W.Frag) (C : Addr) : Prop where
  pg : PySem.W.plainGet K C Str.empty = true
  hd : PySem.W.hasDictIn K C = true
  po : PySem.W.plainOver K C = true
  sa : PySem.W.findIn K (.ref C) "__setattr__" = some (some (.builtin "object.__setattr__"))
theorem Cls.get {K : PySem.W.Frag} {C : Addr} (c : Cls K C) (f : Str) : PySem.W.plainGet K C f = true := c.pg
def NoAttr (K : PySem.W.Frag) (C : Addr) (f : Str) : Prop := PySem.W.findIn K (.ref C) f = some none
theorem NoAttr.taker {K : PySem.W.Frag} {C : Addr} {f : Str} (n : NoAttr K C f) : PySem.W.takerIn K C f = some none := by
  unfold PySem.W.takerIn
  rw [show PySem.W.findIn K (.ref C) f = some none from n]
  rfl
structure Con (K : PySem.W.Frag) (C : Addr) (f : Str) (v : V) (u : Value) : Prop where
  at_ : PySem.W.findIn K (.ref C) f = some (some u)
  rel : RelV v u
  get : PySem.W.specialIn K u "__get__" = some none
  cp : PySem.W.copiedNames.contains f = false
structure Meth (K : PySem.W.Frag) (C : Addr) (m : Str) (f : Addr) : Prop where
  at_ : PySem.W.findIn K (.ref C) m = some (some (.ref f))
  fn : PySem.W.isFn K (.ref f) = true
  kp : PySem.W.keepIn K (.ref f) = true

section
variable {X : Cx} {pins : List (Addr × Obj)} {σ : St} {H : Hp} {s : Shared} {a C dx : Addr} {fs : List (Str × V)} {f : Str} {v : V} {A : Around} {E : Value → Shared → Prop}

theorem getattr_ok {b : Bool} {Q : Value → Shared → Prop} (I : Inv X pins σ H s) (e : H a = some (.ins C dx fs)) (c : Cls X.K C) (n : NoAttr X.K C f) (l : fs.lookup f = some v)
    (h : ∀ u s', Inv X pins σ H s' → RelV v u → Q u s') : wpAny (model X.prog X.w) A (getAttr (.ref a) f b) Q E s := by
  obtain ⟨mA, O, r, _, _, _⟩ := ins_get I.hok e
  obtain ⟨u, hu, ru⟩ := RelO.some_of (v := v) (o := mA f) (by rw [← l]; exact r f)
  exact get_map I.kIn O (c.get f) c.hd n hu (handed_of ru) (h u _ (I.tok _) ru)

theorem getmeth_ok {m : Str} {g : Addr} {pl : Sem Bool} {Q : Value × List Value → Shared → Prop} (I : Inv X pins σ H s) (e : H a = some (.ins C dx fs)) (c : Cls X.K C) (k : Meth X.K C m g) (l : fs.lookup m = none)
    (h : Q (.ref g, [.ref a]) s) : wpAny (model X.prog X.w) A (getMethod (.ref a) m pl) Q E s := by
  obtain ⟨mA, O, r, _, _, _⟩ := ins_get I.hok e
  have hn : mA m = none := RelO.none_of (by rw [← l]; exact r m)
  exact get_meth I.kIn O (c.get m) k.at_ k.fn hn h

theorem setattr_ok {y : V} {u : Value} {Q : Unit → Shared → Prop} (I : Inv X pins σ H s) (e : H a = some (.ins C dx fs)) (c : Cls X.K C) (n : NoAttr X.K C f) (hl : fs.length < 1000) (ry : RelV y u)
    (h : ∀ s', Inv X pins σ (upd H a (.ins C dx (putF f y fs))) s' → Q () s') : wpAny (model X.prog X.w) A (setAttr (.ref a) f u) Q E s := by
  obtain ⟨mA, O, r, wi, _, ho⟩ := ins_get I.hok e
  have hz : (fs.map (·.1)).length ≤ sizeLine := by rw [List.length_map, sizeLine_eq]; omega
  refine set_map I.kIn O c.sa c.po n.taker c.hd wi hz fun h' O' sb => h _ ?_
  have hd : ∃ o, h'.get? dx = some o := let ⟨o, _, _, e', _⟩ := O'.ns; ⟨o, e'⟩
  refine I.write (x := a) (e := dx) (by rw [e]; exact True.intro) (.inr ho) (fun b q hb z => (sb.2 b hb).trans z) hd ?_
  refine ⟨by rw [upd_ne O.ne]; exact ho, ?_, O.ne, O'.obj, _, O'.ns, fun g => ?_, fun g hg => ?_⟩
  · have := length_putF f y fs; omega
  · show RelO ((putF f y fs).lookup g) (if g = f then some u else mA g)
    rw [lookup_putF]
    by_cases q : g = f
    · rw [if_pos q, if_pos q]; exact ry
    · rw [if_neg q, if_neg q]; exact r g
  · by_cases q : g = f
    · rw [q]; exact (keys_putF f y fs).1
    · refine (keys_putF f y fs).2 g (wi g fun z => hg ?_)
      show (if g = f then some u else mA g) = none
      rw [if_neg q]; exact z

theorem Inv.made (I : Inv X pins σ H s) : Inv X pins σ (upd (upd H s.heap.objs.size (.own (s.heap.objs.size + 1))) (s.heap.objs.size + 1) (.ins C s.heap.objs.size []))
    { s with heap := (s.heap.push PySem.W.emptyDict).push (PySem.W.instObj C s.heap.objs.size) } := by
  have e1 : (s.heap.push PySem.W.emptyDict).get? s.heap.objs.size = some PySem.W.emptyDict := Heap.get?_push_size s.heap rfl
  have e2 : ((s.heap.push PySem.W.emptyDict).push (PySem.W.instObj C s.heap.objs.size)).get? (s.heap.objs.size + 1) = some (PySem.W.instObj C s.heap.objs.size) := by
    have := Heap.get?_push_size (s.heap.push PySem.W.emptyDict) (o := PySem.W.instObj C s.heap.objs.size) rfl
    rwa [Heap.size_push] at this
  have e3 : (s.heap.push PySem.W.emptyDict).Ns s.heap.objs.size (fun _ => none) := ⟨PySem.W.emptyDict, #[], _, e1, rfl, (fun e he => absurd he (by simp)), fun _ => rfl⟩
  have I1 := I.laid (a := s.heap.objs.size) (o := .own (s.heap.objs.size + 1)) (h' := s.heap.push PySem.W.emptyDict) (t' := s.toks) (fun b u q => Heap.get?_push_of_some _ q) (Nat.le_refl _) ⟨_, e1⟩
  refine I1.laid (a := s.heap.objs.size + 1) (o := .ins C s.heap.objs.size []) (t' := s.toks) (fun b u q => Heap.get?_push_of_some _ q) (Nat.le_of_eq (Heap.size_push _ _)) ?_
  have ne : s.heap.objs.size ≠ s.heap.objs.size + 1 := Nat.ne_of_lt (Nat.lt_succ_self _)
  refine ⟨by rw [upd_ne ne, upd_same], Nat.zero_le _, ne, e2, fun _ => none, (Heap.Ns1.of_empty e3).at fun o q => Heap.get?_push_of_some _ q, fun _ => True.intro, fun y hy => absurd rfl hy⟩

theorem attr_of {prog : Program} {w : World} {env : Env} {e : Expr} {f : Str} {pos : Pos} {s : Shared} {Q : Value → Shared → Prop} (hb : attributeBase e f env (eval e env) = eval e env)
    (h : wpAny (model prog w) A (eval e env) (fun o s₁ => wpAny (model prog w) A (getAttr o f true) Q E s₁) E s) : wpAny (model prog w) A (eval (.Attribute e f pos) env) Q E s :=
  Attribute_any_ h (by rw [arm_eval_Attribute, hb])
end

def tFld (K : PySem.W.Frag) (ta : TE) (f : Str) : TE := fun σ H Q => ta σ H fun x H1 => ∃ a C dx fs v, x = .ref a ∧ H1 a = some (.ins C dx fs) ∧ Cls K C ∧ NoAttr K C f ∧ fs.lookup f = some v ∧ Q v H1
def tCon (K : PySem.W.Frag) (ta : TE) (f : Str) : TE := fun σ H Q => ta σ H fun x H1 => ∃ a C dx fs v u, x = .ref a ∧ H1 a = some (.ins C dx fs) ∧ Cls K C ∧ Con K C f v u ∧ fs.lookup f = none ∧ Q v H1
def sFld (K : PySem.W.Frag) (ta tv : TE) (f : Str) : TS := fun D σ H => tv σ H fun y H1 => ta σ H1 fun x H2 => ∃ a C dx fs, x = .ref a ∧ H2 a = some (.ins C dx fs) ∧ Cls K C ∧ NoAttr K C f ∧ fs.length < 1000 ∧
  D.nx σ (upd H2 a (.ins C dx (putF f y fs)))
def InOp (X : Cx) (op : Operator) (rd : V → V → Hp → VK → Prop) : Prop :=
  ∀ (pins : List (Addr × Obj)) (s : Shared) (σ : St) (H : Hp) (x y : V) (u v : Value) (Q : VK), Inv X pins σ H s → RelV x u → RelV y v → rd x y H Q → wpAny (model X.prog X.w) X.A (inplaceOp op u v) (EP X pins σ Q) X.xe s
def sFldAug (K : PySem.W.Frag) (ta tv : TE) (rd : V → V → Hp → VK → Prop) (f : Str) : TS := fun D σ H => ta σ H fun x H1 => ∃ a C dx fs v, x = .ref a ∧ H1 a = some (.ins C dx fs) ∧ Cls K C ∧ NoAttr K C f ∧ fs.lookup f = some v ∧
  tv σ H1 fun y H2 => rd v y H2 fun z H3 => ∃ dx' fs', H3 a = some (.ins C dx' fs') ∧ fs'.length < 1000 ∧ D.nx σ (upd H3 a (.ins C dx' (putF f z fs')))

section
variable {X : Cx} {o e value : Expr} {f : Str} {pos pos' tpos : Pos} {ta tv : TE}
theorem pe_fld (he : PE X e ta) (hb : attributeBase e f X.env (eval e X.env) = eval e X.env) : PE X (.Attribute e f pos) (tFld X.K ta f) := by
  intro pins s σ H Q I h
  refine attr_of hb (thn (he pins s σ H _ I h) fun u s1 ⟨x, H1, I1, rx, a, C, dx, fs, v, ex, ea, c, n, l, q⟩ => ?_)
  subst ex
  obtain rfl : u = Value.ref a := rx
  exact getattr_ok I1 ea c n l fun u' s2 I2 ru => ⟨v, H1, I2, ru, q⟩
theorem ps_fld (ha : PE X o ta) (hv : PE X value tv) (hs : swapsWith value (some (.Attribute o f pos')) pos.line X.env = pure false) : PS X (.Assign [.Attribute o f pos'] value pos) (sFld X.K ta tv f) := by
  intro pins s σ H D I h
  refine plainObj_wpAny_Assign_Attribute (thn (hv pins s σ H _ I h) fun u s1 ⟨y, H1, I1, ry, q⟩ => thn (ha pins s1 σ H1 _ I1 q) fun ov s2 ⟨x, H2, I2, rx, a, C, dx, fs, ex, ea, c, n, l, q2⟩ => ?_) hs
  subst ex
  obtain rfl : ov = Value.ref a := rx
  exact setattr_ok I2 ea c n l ry fun s3 I3 => ⟨σ, _, I3, q2⟩
def rAdd : V → V → Hp → VK → Prop := fun x y H Q => ∃ i j, x = .int i ∧ y = .int j ∧ Q (.int (i + j)) H
def rSub : V → V → Hp → VK → Prop := fun x y H Q => ∃ i j, x = .int i ∧ y = .int j ∧ Q (.int (i - j)) H
theorem methcall_of {pl : Sem Bool} {m : Str} {apos : Pos} {args : List Expr} {pins : List (Addr × Obj)} {s : Shared} {σ : St} {H : Hp} {Q : Value → Shared → Prop} {te : TE} (he : PE X e te) (I : Inv X pins σ H s)
    (h : te σ H fun x H1 => ∃ a C dx fs g, x = .ref a ∧ H1 a = some (.ins C dx fs) ∧ Cls X.K C ∧ Meth X.K C m g ∧ fs.lookup m = none ∧
      ∀ s1, Inv X pins σ H1 s1 → wpAny (model X.prog X.w) X.A (callWith pos (.ref g) [.ref a] (backTo pos (starEach args X.env)) (backToKw pos (keywordEach [] X.env))) Q X.xe s1)
    (ht : eval (.Call (.Attribute e m apos) args [] pos) X.env = (do
      let ov ← eval e X.env
      standAt apos.atName
      let (f, first) ← holding [ov] (getMethod ov m pl)
      callWith pos f first (backTo pos (starEach args X.env)) (backToKw pos (keywordEach [] X.env)))) :
    wpAny (model X.prog X.w) X.A (eval (.Call (.Attribute e m apos) args [] pos) X.env) Q X.xe s := by
  refine PySem.W.methodCall_KW (pl := pl) (thn (he pins s σ H _ I h) fun u s1 ⟨x, H1, I1, rx, a, C, dx, fs, g, ex, ea, c, k, l, q⟩ => ?_) ht
  subst ex
  obtain rfl : u = Value.ref a := rx
  exact getmeth_ok I1 ea c k l (q s1 I1)
end

section
variable {X : Cx} {pins : List (Addr × Obj)} {σ : St} {H : Hp} {s : Shared} {A : Around} {E : Value → Shared → Prop} {Q : Value → Shared → Prop} {c : Value} {b : Bool}
inductive TyOf (K : PySem.W.Frag) (H : Hp) : V → Value → Prop where
  | non : TyOf K H .non (.type "NoneType")
  | bl (x : Bool) : TyOf K H (.bl x) (.type "bool")
  | int (i : Int) : TyOf K H (.int i) (.type "int")
  | str (x : Str) : TyOf K H (.str x) (.type "str")
  | flt (x : UInt64) : TyOf K H (.flt x) (.type "float")
  | lst {a : Addr} {xs : List V} (e : H a = some (.lst xs)) : TyOf K H (.ref a) (.type "list")
  | frz {a : Addr} {o : Obj} {xs : List V} (e : H a = some (.frz o (.lst xs))) : TyOf K H (.ref a) (.type "list")
  | tup {a : Addr} {xs : List V} (e : H a = some (.tup xs)) : TyOf K H (.ref a) (.type "tuple")
  | dK {a : Addr} {kvs : List (Key × V)} (e : H a = some (.dK kvs)) : TyOf K H (.ref a) (.type "dict")
  | dT {a : Addr} {kvs : List (List Key × V)} (e : H a = some (.dT kvs)) : TyOf K H (.ref a) (.type "dict")
  | ins {a C dx : Addr} {fs : List (Str × V)} (e : H a = some (.ins C dx fs)) (cl : Cls K C) (ha : PySem.W.findIn K (.ref C) "__class__" = some (some (.builtin "object.__class__")))
      (hn : PySem.W.specialIn K (.builtin "object.__class__") "__get__" = some (some (.builtin "getset_descriptor.__get__"))) (htk : PySem.W.takesIn K (.builtin "object.__class__") = some true)
      (hm : PySem.W.mroIn K C (.type "object") = some true) : TyOf K H (.ref a) (.ref C)
theorem isinst_ok {x : V} {u t : Value} (I : Inv X pins σ H s) (rx : RelV x u) (ty : TyOf X.K H x t) (e : PySem.W.kitOne X.K t c = some b) (h : ∀ tk, Q (.bool b) { s with toks := tk }) :
    wpAny (model X.prog X.w) A (call (.builtin "isinstance") [u, c]) Q E s := by
  cases ty with
  | non => cases (show u = Value.none from rx); exact PySem.W.kia_one PySem.W.kitx_none I.kIn True.intro e (fun z => nomatch z) h
  | bl y => cases (show u = Value.bool y from rx); exact PySem.W.kia_one PySem.W.kitx_bool I.kIn True.intro e (fun z => nomatch z) h
  | int i => obtain ⟨t, q⟩ := (show ∃ t, u = Value.int i t from rx); cases q; exact PySem.W.kia_one PySem.W.kitx_int I.kIn True.intro e (fun z => nomatch z) h
  | str y => obtain ⟨t, q⟩ := (show ∃ t, u = Value.str y t from rx); cases q; exact PySem.W.kia_one PySem.W.kitx_str I.kIn True.intro e (fun z => nomatch z) h
  | flt y => obtain ⟨t, q⟩ := (show ∃ t, u = Value.float y t from rx); cases q; exact PySem.W.kia_one PySem.W.kitx_float I.kIn True.intro e (fun z => nomatch z) h
  | @lst a xs ea =>
    cases (show u = Value.ref a from rx)
    obtain ⟨_, _, n, _, h1⟩ := (show ObjOk X.prog X.w H s.heap a (.lst xs) from I.hok a _ ea)
    exact PySem.W.kia_one PySem.W.kitx_list I.kIn ⟨_, h1, rfl⟩ e (fun z => nomatch z) h
  | @frz a ob xs ea =>
    cases (show u = Value.ref a from rx)
    obtain ⟨_, _, _, n, _, h1⟩ := (show ObjOk X.prog X.w H s.heap a (.frz ob (.lst xs)) from I.hok a _ ea)
    exact PySem.W.kia_one PySem.W.kitx_list I.kIn ⟨_, h1, rfl⟩ e (fun z => nomatch z) h
  | @tup a xs ea =>
    cases (show u = Value.ref a from rx)
    obtain ⟨_, _, _, p⟩ := (show ObjOk X.prog X.w H s.heap a (.tup xs) from I.hok a _ ea)
    obtain ⟨o, h1, h2, _⟩ := p
    exact PySem.W.kia_one PySem.W.kitx_tuple I.kIn ⟨o, h1, h2⟩ e (fun z => nomatch z) h
  | @dK a kvs ea =>
    cases (show u = Value.ref a from rx)
    obtain ⟨_, _, vs, _, p⟩ := (show ObjOk X.prog X.w H s.heap a (.dK kvs) from I.hok a _ ea)
    obtain ⟨o, es, ep, h1, h2, _⟩ := p
    exact PySem.W.kia_one PySem.W.kitx_dict I.kIn ⟨o, h1, h2.1⟩ e (fun z => nomatch z) h
  | @dT a kvs ea =>
    cases (show u = Value.ref a from rx)
    obtain ⟨_, _, xs, _, o, es, ep, h1, h2, _⟩ := (show ObjOk X.prog X.w H s.heap a (.dT kvs) from I.hok a _ ea)
    exact PySem.W.kia_one PySem.W.kitx_dict I.kIn ⟨o, h1, h2.1⟩ e (fun z => nomatch z) h
  | @ins a C dx fs ea cl ha hn htk hm =>
    cases (show u = Value.ref a from rx)
    obtain ⟨mA, O, _⟩ := ins_get I.hok ea
    obtain ⟨od, J, _⟩ := O.look
    exact PySem.W.kia_one (PySem.W.kitx_own (cl.get _) cl.hd ha hn htk hm) I.kIn J e (fun z => nomatch z) h
end
end L2

namespace L2
open PySem PySem.Spec PyProof.Rows

structure Room (k : Nat) (A : Around) : Prop where
  hd : A.handled = none
  dp : A.depth + 3 * k + 5 < recursionLimit
  un : A.units + 16 * k + 200 < cLine
theorem Room.mono {j k : Nat} {A : Around} (r : Room k A) (h : j ≤ k) : Room j A := ⟨r.hd, by have := r.dp; omega, by have := r.un; omega⟩
theorem Room.deeper {k : Nat} {A : Around} (r : Room (k + 1) A) (env : Env) : Room k (A.deeper env) :=
  ⟨r.hd, by have := r.dp; show A.depth + 1 + 3 * k + 5 < _; omega, by have := r.un; show A.units + 3 + 16 * k + 200 < _; omega⟩
theorem make_depth {A : Around} {C : Addr} {us : List Value} {kw : List (Str × Value)} : (A.under (.builtin "type.__call__" ⟨.ref C :: us, kw⟩)).depth = A.depth + 1 := by
  first | rfl | simp [Around.under, Code.weight, Code.isCreation, Code.isGuard, Code.isCaller, Code.frames, Code.isFrame, guardIds]
theorem make_units {A : Around} {C : Addr} {us : List Value} {kw : List (Str × Value)} : (A.under (.builtin "type.__call__" ⟨.ref C :: us, kw⟩)).units = A.units + 1 := by
  first | rfl | simp [Around.under, Code.cUnits, Code.frames, Code.isFrame]
theorem Room.make {k : Nat} {A : Around} (r : Room (k + 1) A) (C : Addr) (us : List Value) (kw : List (Str × Value)) : Room k (A.under (.builtin "type.__call__" ⟨.ref C :: us, kw⟩)) :=
  ⟨r.hd, by have := r.dp; rw [make_depth]; omega, by have := r.un; rw [make_units]; omega⟩
theorem Room.depth {k : Nat} {A : Around} (r : Room k A) : A.depth < recursionLimit := by have := r.dp; omega
theorem Room.units {k : Nat} {A : Around} (r : Room k A) : A.units + 64 < cLine := by have := r.un; omega
def tNil : TA := fun _ H Q => Q [] H
def tCons (ta : TE) (tr : TA) : TA := fun σ H Q => ta σ H fun x H1 => tr σ H1 fun xs H2 => Q (x :: xs) H2
section
variable {X : Cx} {e : Expr} {es : List Expr} {te : TE} {t : TA} {pos : Pos}
theorem pa_nil : PA X [] tNil := fun _ _ _ _ H Q I h => Calls.spliced_nil ⟨[], H, I, .nil, h⟩
theorem pa_cons (ha : PE X e te) (hr : PA X es t) (hs : starEach (e :: es) X.env = (false, eval e X.env) :: starEach es X.env := by rfl) : PA X (e :: es) (tCons te t) := by
  intro pos pins s σ H Q I h
  rw [hs]
  show wpAny _ _ (spliced ((false, eval e X.env) :: backTo pos (starEach es X.env))) _ _ s
  refine Calls.spliced_cons (thn (ha pins s σ H _ I h) fun u s1 ⟨x, H1, I1, r1, q1⟩ => ?_)
  exact thn (hr pos pins s1 σ H1 _ I1 q1) fun us s2 ⟨xs, H2, I2, r2, q2⟩ => ⟨x :: xs, H2, I2, .cons r1 r2, q2⟩

def tTup (t : TA) : TE := fun σ H Q => t σ H fun xs H1 => xs.length ≤ sizeLine ∧ ∀ p, H1 p = none → Q (.ref p) (upd H1 p (.tup xs))
def tLst (t : TA) : TE := fun σ H Q => t σ H fun xs H1 => xs.length ≤ sizeLine ∧ ∀ p, H1 p = none → Q (.ref p) (upd H1 p (.lst xs))
theorem pe_tup {x1} (h : PA X es t) : PE X (.Tuple es x1 pos) (tTup t) := by
  intro pins s σ H Q I hq
  refine wpAny_Tuple_spliced (thn (h pos pins s σ H _ I hq) fun us s1 ⟨xs, H1, I1, r, z, q⟩ => ⟨by rw [← r.length]; exact z, ?_⟩)
  have hf : H1 s1.heap.objs.size = none := I1.hok.fresh (Nat.le_refl _)
  refine ⟨.ref s1.heap.objs.size, upd H1 s1.heap.objs.size (.tup xs), I1.laid (t' := s1.toks) (fun b u e => Heap.get?_push_of_some _ e) (Nat.le_refl _) ?_, rfl, q _ hf⟩
  exact ⟨z, us, r, ⟨_, Heap.get?_push_size _ rfl, rfl, _, rfl⟩⟩
theorem pe_lst (h : PA X es t) : PE X (.List es pos) (tLst t) := by
  intro pins s σ H Q I hq
  refine wpAny_List_spliced (thn (h pos pins s σ H _ I hq) fun us s1 ⟨xs, H1, I1, r, z, q⟩ => ⟨by rw [← r.length]; exact z, ?_⟩)
  have hf : H1 s1.heap.objs.size = none := I1.hok.fresh (Nat.le_refl _)
  refine ⟨.ref s1.heap.objs.size, upd H1 s1.heap.objs.size (.lst xs), I1.laid (t' := s1.toks) (fun b u e => Heap.get?_push_of_some _ e) (Nat.le_refl _) ?_, rfl, q _ hf⟩
  exact ⟨z, us, 0, r, Heap.get?_push_size _ rfl⟩
end

abbrev Sp := List V → Hp → VK → XK → Prop
abbrev CXT := List Env → Hp → Shared → XK → Value → Shared → Prop

structure Env0 (P : Program) (w : World) (K : PySem.W.Frag) (mg : Str → Option Value) (base : Heap) (A : Around) (outer : List Env) (s : Shared) (H : Hp) : Prop where
  frames : A.frames = some outer
  mod : Mod K mg base
  bs : ∀ b o, base.get? b = some o → s.heap.get? b = some o ∧ H b = none
  bsz : base.objs.size ≤ s.heap.objs.size
  funs : s.heap.FunFrames base outer
  frf : ∀ b ∈ frs outer, H b = none
  hok : HOk P w H s.heap
  bare : AllBare s.gens
def CE (outer : List Env) (P : Program) (w : World) (H : Hp) (s : Shared) (Q : VK) (u : Value) (s' : Shared) : Prop :=
  ∃ v H', s'.os = s.os ∧ AllBare s'.gens ∧ Un (frs outer) [] H H' s.heap s'.heap ∧ HOk P w H' s'.heap ∧ RelV v u ∧ Q v H'
def CR (CX : CXT) (outer : List Env) (P : Program) (w : World) (H : Hp) (s : Shared) (Q : VK) (E : XK) (r : Result) (s' : Shared) : Prop :=
  match r with
  | .ok (.ret u) => CE outer P w H s Q u s'
  | .ok _ => False
  | .error e => CX outer H s E e s'
structure FnOk (P : Program) (w : World) (K : PySem.W.Frag) (mg : Str → Option Value) (base : Heap) (CX : CXT) (k : Nat) (f : Addr) (fd : FuncData) (ps : List Str) (sp : Sp) : Prop where
  len : ∀ vs H Q E, sp vs H Q E → vs.length = ps.length
  run : ∀ (A : Around) (outer : List Env) (s : Shared) (H : Hp) (args : Args) (us : List Value) (vs : List V) (Q : VK) (E : XK), Room k A → Env0 P w K mg base A outer s H → BindsTo s fd args (ps.zip us) → Vals vs us → sp vs H Q E →
    codeAny (model P w) A (.call (.ref f) args) (CR CX outer P w H s Q E) s
theorem FnOk.mono {P : Program} {w : World} {K : PySem.W.Frag} {mg : Str → Option Value} {base : Heap} {CX : CXT} {j k : Nat} {f : Addr} {fd : FuncData} {ps : List Str} {sp : Sp} (F : FnOk P w K mg base CX j f fd ps sp) (h : j ≤ k) :
    FnOk P w K mg base CX k f fd ps sp := ⟨F.len, fun A outer s H args us vs Q E hr => F.run A outer s H args us vs Q E (hr.mono h)⟩
theorem Env0.make {P : Program} {w : World} {K : PySem.W.Frag} {mg : Str → Option Value} {base : Heap} {A : Around} {outer : List Env} {s : Shared} {H : Hp} (e : Env0 P w K mg base A outer s H) (C : Addr) (us : List Value) (kw : List (Str × Value)) :
    Env0 P w K mg base (A.under (.builtin "type.__call__" ⟨.ref C :: us, kw⟩)) outer s H := ⟨by first | exact e.frames | (simpa [Around.under, Code.envs, Code.isFrame, pushEnvs] using e.frames), e.mod, e.bs, e.bsz, e.funs, e.frf, e.hok, e.bare⟩
section
variable {X : Cx} {pins : List (Addr × Obj)} {σ : St} {H : Hp} {s s' : Shared}
theorem Inv.env0 (I : Inv X pins σ H s) : Env0 X.prog X.w X.K X.mg X.base X.A X.stack s H :=
  ⟨I.ok.frames, I.ok.mod, I.bs, Nat.le_trans I.ok.bsz I.sz, I.stack, I.stkFree, I.hok, I.bare⟩
theorem Inv.after {Q : VK} {u : Value} (I : Inv X pins σ H s) (h : CE X.stack X.prog X.w H s Q u s') : EP X pins σ Q u s' := by
  obtain ⟨v, H', os, bare, un, hok, r, q⟩ := h
  obtain ⟨hh, g, d, t, os'⟩ := s'
  obtain rfl : os' = s.os := os
  exact ⟨v, H', I.call (h' := hh) (g' := g) (d' := d) (t' := t) (ch := []) un hok bare (fun b z => absurd z (by simp)), r, q⟩
end

def tCall (sp : Sp) (dvs : List V) (E : XK) (t : TA) : TE := fun σ H Q => t σ H fun vs H1 => sp (vs ++ dvs) H1 Q E
def tMeth (C : Addr) (m : Str) (sp : Sp) (dvs : List V) (E : XK) (ta : TE) (t : TA) : TE := fun σ H Q => ta σ H fun x H1 => ∃ a dx fs, x = .ref a ∧ H1 a = some (.ins C dx fs) ∧ fs.lookup m = none ∧
  t σ H1 fun vs H2 => sp (x :: (vs ++ dvs)) H2 Q E
def tMake (C : Addr) (sp : Sp) (dvs : List V) (E : XK) (t : TA) : TE := fun σ H Q => t σ H fun vs H1 => ∀ x dx, H1 x = none → H1 dx = none → dx ≠ x →
  sp (.ref x :: (vs ++ dvs)) (upd (upd H1 dx (.own x)) x (.ins C dx [])) (fun v H2 => v = .non ∧ Q (.ref x) H2) E

def Binds (K : PySem.W.Frag) (fd : FuncData) (ps : List Str) (ds : List Value) : Prop :=
  ∀ (s : Shared) (us : List Value), K.In s.heap → (us ++ ds).length = ps.length → BindsTo s fd ⟨us, []⟩ (ps.zip (us ++ ds))
theorem Binds.all {K : PySem.W.Frag} {fd : FuncData} {ps : List Str} (h : ∀ us : List Value, us.length = ps.length → bindArgs fd ⟨us, []⟩ = pure (ps.zip us)) : Binds K fd ps [] := fun s us _ hl => by
  rw [List.append_nil] at hl ⊢
  exact .of_eq (h us hl)

def Passes (CX : CXT) (X : Cx) (E : XK) : Prop := ∀ (pins : List (Addr × Obj)) (σ : St) (H : Hp) (s : Shared) (e : Value) (s' : Shared), Inv X pins σ H s → CX X.stack H s E e s' → X.xe e s'

section
variable {X : Cx} {CX : CXT} {k : Nat} {f C : Addr} {fd : FuncData} {ps : List Str} {sp : Sp} {dvs : List V} {ds : List Value} {E : XK} {x m : Str} {p pos apos : Pos} {e o : Expr} {es : List Expr} {ta : TE} {t : TA}

theorem run_fn {pins : List (Addr × Obj)} {σ : St} {H : Hp} {s : Shared} {Q : VK} {us : List Value} {vs : List V} (F : FnOk X.prog X.w X.K X.mg X.base CX k f fd ps sp) (hr : Room k X.A) (hb : Binds X.K fd ps ds) (hd : Vals dvs ds) (hx : Passes CX X E)
    (I : Inv X pins σ H s) (r : Vals vs us) (h : sp (vs ++ dvs) H Q E) : wpAny (model X.prog X.w) X.A (call (.ref f) us) (EP X pins σ Q) X.xe s := by
  have r2 : Vals (vs ++ dvs) (us ++ ds) := r.append hd
  have hl : (us ++ ds).length = ps.length := by rw [← r2.length]; exact F.len _ _ _ _ h
  refine wpAny_call (codeAny_mono (F.run X.A X.stack s H ⟨us, []⟩ (us ++ ds) (vs ++ dvs) Q E hr I.env0 (hb s us I.kIn hl) r2 h) fun r s' hq => ?_)
  cases r with
  | error e => exact hx pins σ H s e s' I hq
  | ok fl =>
    cases fl with
    | ret u => exact I.after hq
    | next => exact False.elim hq
    | brk => exact False.elim hq
    | cont => exact False.elim hq

theorem pe_call (F : FnOk X.prog X.w X.K X.mg X.base CX k f fd ps sp) (hr : Room k X.A) (hg : Gl X x) (hm : X.mg x = some (.ref f)) (hk : PySem.W.keepIn X.K (.ref f) = true) (hb : Binds X.K fd ps ds) (hd : Vals dvs ds) (hx : Passes CX X E)
    (ha : PA X (e :: es) t) (hdb : (x == ("__debug__" : Str)) = false := by decide) (he : starEach (e :: es) X.env = (false, eval e X.env) :: starEach es X.env := by rfl) (hpl : (backTo pos (starEach es X.env)).any (·.1) = false := by rfl) :
    PE X (.Call (.Name x p) (e :: es) [] pos) (tCall sp dvs E t) := by
  intro pins s σ H Q I h
  refine wpAny_Call_Name_kw (ld_glob I hg hm ?_ hdb)
  refine PySem.W.callWith_K (h₀ := X.base) I.ok.mod.kin hk (thn (ha pos pins s σ H _ I h) fun us s1 ⟨vs, H1, I1, r, q⟩ => ⟨I1.kIn, ?_⟩) he hpl
  exact run_fn F hr hb hd hx I1 r q
theorem pe_meth {pl : Sem Bool} (he : PE X o ta) (c : Cls X.K C) (hm : Meth X.K C m f) (F : FnOk X.prog X.w X.K X.mg X.base CX k f fd ps sp) (hr : Room k X.A) (hb : Binds X.K fd ps ds) (hd : Vals dvs ds) (hx : Passes CX X E) (ha : PA X (e :: es) t)
    (hst : starEach (e :: es) X.env = (false, eval e X.env) :: starEach es X.env := by rfl) (hpl : (backTo pos (starEach es X.env)).any (·.1) = false := by rfl)
    (ht : eval (.Call (.Attribute o m apos) (e :: es) [] pos) X.env = (do
      let ov ← eval o X.env
      standAt apos.atName
      let (f, first) ← holding [ov] (getMethod ov m pl)
      callWith pos f first (backTo pos (starEach (e :: es) X.env)) (backToKw pos (keywordEach [] X.env))) := by rfl) :
    PE X (.Call (.Attribute o m apos) (e :: es) [] pos) (tMeth C m sp dvs E ta t) := by
  intro pins s σ H Q I h
  refine PySem.W.methodCall_KW (pl := pl) (thn (he pins s σ H _ I h) fun u s1 ⟨x, H1, I1, rx, a, dx, fs, ex, ea, l, q⟩ => ?_) ht
  subst ex
  obtain rfl : u = Value.ref a := rx
  refine getmeth_ok I1 ea c hm l ?_
  refine PySem.W.callWith_K (first := [.ref a]) (h₀ := X.base) I.ok.mod.kin hm.kp (thn (ha pos pins s1 σ H1 _ I1 q) fun us s2 ⟨vs, H2, I2, r, q2⟩ => ⟨I2.kIn, ?_⟩) hst hpl
  exact run_fn (us := .ref a :: us) (vs := .ref a :: vs) F hr hb hd hx I2 (.cons rfl r) q2
theorem pe_meth0 {pl : Sem Bool} (he : PE X o ta) (c : Cls X.K C) (hm : Meth X.K C m f) (F : FnOk X.prog X.w X.K X.mg X.base CX k f fd ps sp) (hr : Room k X.A) (hb : Binds X.K fd ps ds) (hd : Vals dvs ds) (hx : Passes CX X E)
    (ht : eval (.Call (.Attribute o m apos) [] [] pos) X.env = (do
      let ov ← eval o X.env
      standAt apos.atName
      let (f, first) ← holding [ov] (getMethod ov m pl)
      callWith pos f first (backTo pos (starEach [] X.env)) (backToKw pos (keywordEach [] X.env))) := by rfl) :
    PE X (.Call (.Attribute o m apos) [] [] pos) (tMeth C m sp dvs E ta tNil) := by
  intro pins s σ H Q I h
  refine PySem.W.methodCall_KW (pl := pl) (thn (he pins s σ H _ I h) fun u s1 ⟨x, H1, I1, rx, a, dx, fs, ex, ea, l, q⟩ => ?_) ht
  subst ex
  obtain rfl : u = Value.ref a := rx
  refine getmeth_ok I1 ea c hm l ?_
  exact PySem.W.callWith_K0 (first := [.ref a]) I1.kIn hm.kp (run_fn (us := [.ref a]) (vs := [.ref a]) F hr hb hd hx I1 (.cons rfl .nil) q)

structure Mk (K : PySem.W.Frag) (C f : Addr) : Prop where
  makes : PySem.W.makesIn K C = true
  init : PySem.W.findIn K (.ref C) "__init__" = some (some (.ref f))
  fn : PySem.W.isFn K (.ref f) = true
  kp : PySem.W.keepIn K (.ref C) = true

theorem run_make {pins : List (Addr × Obj)} {σ : St} {H : Hp} {s : Shared} {Q : VK} {us : List Value} {vs : List V} (M : Mk X.K C f) (F : FnOk X.prog X.w X.K X.mg X.base CX k f fd ps sp) (hr : Room (k + 1) X.A) (hb : Binds X.K fd ps ds) (hd : Vals dvs ds)
    (hx : Passes CX X E) (I : Inv X pins σ H s) (r : Vals vs us)
    (h : ∀ x dx, H x = none → H dx = none → dx ≠ x → sp (.ref x :: (vs ++ dvs)) (upd (upd H dx (.own x)) x (.ins C dx [])) (fun v H2 => v = .non ∧ Q (.ref x) H2) E) :
    wpAny (model X.prog X.w) X.A (call (.ref C) us) (EP X pins σ Q) X.xe s := by
  have hq := h (s.heap.objs.size + 1) s.heap.objs.size (I.hok.fresh (Nat.le_succ _)) (I.hok.fresh (Nat.le_refl _)) (Nat.ne_of_lt (Nat.lt_succ_self _))
  have I2 := Inv.made (C := C) I
  have r2 : Vals (V.ref (s.heap.objs.size + 1) :: (vs ++ dvs)) (Value.ref (s.heap.objs.size + 1) :: (us ++ ds)) := .cons rfl (r.append hd)
  have hl : (Value.ref (s.heap.objs.size + 1) :: us ++ ds).length = ps.length := by
    have e := r2.length
    rw [F.len _ _ _ _ hq] at e
    exact e.symm
  refine wpAny_call (make_map (f := f) I.kIn M.makes M.init (beq_iff_eq.mp M.fn) (codeAny_mono (F.run _ X.stack _ _ ⟨Value.ref (s.heap.objs.size + 1) :: us, []⟩ (Value.ref (s.heap.objs.size + 1) :: (us ++ ds)) _ _ E (hr.make C us [])
    (I2.env0.make C us []) (hb _ (Value.ref (s.heap.objs.size + 1) :: us) I2.kIn hl) r2 hq) fun r s' hq' => ?_))
  cases r with
  | error e => exact hx pins σ _ _ e s' I2 hq'
  | ok fl =>
    cases fl with
    | ret u =>
      obtain ⟨v, H', I3, rv, ev, q3⟩ := I2.after hq'
      subst ev
      exact ⟨rv, ⟨V.ref (s.heap.objs.size + 1), H', I3, rfl, q3⟩⟩
    | next => exact False.elim hq'
    | brk => exact False.elim hq'
    | cont => exact False.elim hq'
theorem pe_make (M : Mk X.K C f) (F : FnOk X.prog X.w X.K X.mg X.base CX k f fd ps sp) (hr : Room (k + 1) X.A) (hg : Gl X x) (hm : X.mg x = some (.ref C)) (hb : Binds X.K fd ps ds) (hd : Vals dvs ds) (hx : Passes CX X E)
    (ha : PA X (e :: es) t) (hdb : (x == ("__debug__" : Str)) = false := by decide) (he : starEach (e :: es) X.env = (false, eval e X.env) :: starEach es X.env := by rfl) (hpl : (backTo pos (starEach es X.env)).any (·.1) = false := by rfl) :
    PE X (.Call (.Name x p) (e :: es) [] pos) (tMake C sp dvs E t) := by
  intro pins s σ H Q I h
  refine wpAny_Call_Name_kw (ld_glob I hg hm ?_ hdb)
  refine PySem.W.callWith_K (h₀ := X.base) I.ok.mod.kin M.kp (thn (ha pos pins s σ H _ I h) fun us s1 ⟨vs, H1, I1, r, q⟩ => ⟨I1.kIn, ?_⟩) he hpl
  exact run_make M F hr hb hd hx I1 r q
end

def PK (X : Cx) (kws : List Keyword) (t : TA) : Prop :=
  ∀ (pos : Pos) (pins : List (Addr × Obj)) (s : Shared) (σ : St) (H : Hp) (Q : List V → Hp → Prop), Inv X pins σ H s → t σ H Q → wpAny (model X.prog X.w) X.A (evalAll ((backToKw pos (keywordEach kws X.env)).map (·.2))) (AP X pins σ Q) X.xe s
section
variable {X : Cx} {CX : CXT} {k : Nat} {f C : Addr} {fd : FuncData} {ps ks : List Str} {sp : Sp} {E : XK} {x m : Str} {p pos apos kpos : Pos} {e o : Expr} {es : List Expr} {kws : List Keyword} {te ta : TE} {t tk : TA} {nm : Option Str}
structure KBinds (K : PySem.W.Frag) (fd : FuncData) (ps ks : List Str) (g : List Value → List Value → List Value) (gV : List V → List V → List V) : Prop where
  to : ∀ (s : Shared) (us ws : List Value), K.In s.heap → (g us ws).length = ps.length → BindsTo s fd ⟨us, ks.zip ws⟩ (ps.zip (g us ws))
  rel : ∀ {vs : List V} {us : List Value} {zs : List V} {ws : List Value}, Vals vs us → Vals zs ws → Vals (gV vs zs) (g us ws)
def tCallK (sp : Sp) (gV : List V → List V → List V) (E : XK) (t tk : TA) : TE := fun σ H Q => t σ H fun vs H1 => tk σ H1 fun zs H2 => sp (gV vs zs) H2 Q E
variable {g : List Value → List Value → List Value} {gV : List V → List V → List V}
end

structure FnScope (N P : List Str) (sc : Scope) : Prop where
  kind : sc.kind = .function
  co : sc.isCoroutine = false
  gen : sc.isGenerator = false
  nd : N.Nodup
  pre : N.take P.length = P
  par : ∀ x ∈ P, sc.names.lookup x = some .local ∨ sc.names.lookup x = some .cell
  nofree : ∀ y ∈ sc.names, y.2 ≠ .free

theorem bindL_out {kindOf : Str → Option NameKind} {x : Str} : ∀ {binds : List (Str × Value)} {m : Str → Option Value}, (∀ v, (x, v) ∉ binds) → bindL kindOf binds m x = m x
  | [], _, _ => rfl
  | (n, v) :: r, m, h => by
    unfold bindL
    rw [bindL_out fun w hw => h w (List.mem_cons_of_mem _ hw)]
    split
    · have : x ≠ n := by rintro rfl; exact h v List.mem_cons_self
      simp [this]
    · rfl
theorem bindC_out {kindOf : Str → Option NameKind} {x : Str} : ∀ {binds : List (Str × Value)} {m : Str → Option Value}, (∀ v, (x, v) ∉ binds) → bindC kindOf binds m x = m x
  | [], _, _ => rfl
  | (n, v) :: r, m, h => by
    unfold bindC
    rw [bindC_out fun w hw => h w (List.mem_cons_of_mem _ hw)]
    split
    · rfl
    · have : x ≠ n := by rintro rfl; exact h v List.mem_cons_self
      simp [this]
theorem bindL_get {kindOf : Str → Option NameKind} {x : Str} {v : Value} : ∀ {P : List Str} {vs : List Value} {i : Nat} {m : Str → Option Value}, P.Nodup → P[i]? = some x → vs[i]? = some v → kindOf x = some .local →
    bindL kindOf (P.zip vs) m x = some v
  | [], _, _, _, _, h, _, _ => by simp at h
  | _ :: _, [], _, _, _, _, h, _ => by simp at h
  | p :: P, w :: vs, 0, m, nd, h1, h2, hk => by
    simp at h1 h2; subst h1; subst h2
    show bindL kindOf ((p, w) :: P.zip vs) m p = _
    unfold bindL
    rw [bindL_out fun v hv => (List.nodup_cons.mp nd).1 (List.of_mem_zip hv).1, if_pos hk]
    simp
  | p :: P, w :: vs, i + 1, m, nd, h1, h2, hk => by
    show bindL kindOf ((p, w) :: P.zip vs) m x = _
    unfold bindL
    exact bindL_get (i := i) (List.nodup_cons.mp nd).2 (by simpa using h1) (by simpa using h2) hk
theorem bindC_get {kindOf : Str → Option NameKind} {x : Str} {v : Value} : ∀ {P : List Str} {vs : List Value} {i : Nat} {m : Str → Option Value}, P.Nodup → P[i]? = some x → vs[i]? = some v → kindOf x ≠ some .local →
    bindC kindOf (P.zip vs) m x = some v
  | [], _, _, _, _, h, _, _ => by simp at h
  | _ :: _, [], _, _, _, _, h, _ => by simp at h
  | p :: P, w :: vs, 0, m, nd, h1, h2, hk => by
    simp at h1 h2; subst h1; subst h2
    show bindC kindOf ((p, w) :: P.zip vs) m p = _
    unfold bindC
    rw [bindC_out fun v hv => (List.nodup_cons.mp nd).1 (List.of_mem_zip hv).1, if_neg hk]
    simp
  | p :: P, w :: vs, i + 1, m, nd, h1, h2, hk => by
    show bindC kindOf ((p, w) :: P.zip vs) m x = _
    unfold bindC
    exact bindC_get (i := i) (List.nodup_cons.mp nd).2 (by simpa using h1) (by simpa using h2) hk

def start (N : List Str) (vs : List V) : St := vs.map some ++ List.replicate (N.length - vs.length) none

def cxOf (CX : CXT) (P : Program) (w : World) (K : PySem.W.Frag) (mg : Str → Option Value) (base : Heap) (N : List Str) (qual : Str) (scope : Scope) (f : Addr) (cd : Value) (A : Around) (outer : List Env) (s : Shared) (H : Hp) (E : XK) : Cx where
  prog := P
  w := w
  K := K
  mg := mg
  base := base
  A := A.deeper (envOfC qual scope s.heap.objs.size f cd)
  N := N
  s₀ := s
  H₀ := H
  env := envOfC qual scope s.heap.objs.size f cd
  outer := outer
  stack := envOfC qual scope s.heap.objs.size f cd :: outer
  ex := []
  calm := true
  fn := fun _ => true
  pn := []
  xe := fun e s' => wpAny (model P w) (A.deeper (envOfC qual scope s.heap.objs.size f cd)) (leaving (envOfC qual scope s.heap.objs.size f cd) e) (fun _ s'' => CX outer H s E e s'') (fun e' s'' => CX outer H s E e' s'') s'

theorem cell_has {sc : Scope} {n : Nat} {x : Str} (h : sc.names.lookup x = some .cell) : ∃ c, (cellsFrom n sc.names []).lookup x = some c := by
  have q := PySem.W.cellsFrom_some sc.names n [] (.inl h)
  exact Option.isSome_iff_exists.mp q

theorem inv_start {CX : CXT} {P : Program} {w : World} {K : PySem.W.Frag} {mg : Str → Option Value} {base : Heap} {N ps : List Str} {qual : Str} {scope : Scope} {f : Addr} {cd : Value} {A : Around} {outer : List Env} {s s1 : Shared} {H : Hp} {E : XK} {us : List Value} {vs : List V}
    (S : FnScope N ps scope) (hd : A.handled = none) (e0 : Env0 P w K mg base A outer s H) (hl : vs.length = ps.length) (r : Vals vs us)
    (x : InCallC s s.heap.objs.size (bindL (envOfC qual scope s.heap.objs.size f cd).kindOf (ps.zip us) fun _ => none) (cellsFrom (s.heap.objs.size + 1) scope.names []) (bindC (envOfC qual scope s.heap.objs.size f cd).kindOf (ps.zip us) fun _ => none) s1) :
    Inv (cxOf CX P w K mg base N qual scope f cd A outer s H E) [] (start N vs) H s1 := by
  have hpl : ps.length ≤ N.length := by have := congrArg List.length S.pre; rw [List.length_take] at this; omega
  obtain ⟨h1, tk, rfl, hk⟩ := x.done
  have noA : ∀ b : Addr, b ∉ (cxOf CX P w K mg base N qual scope f cd A outer s H E).ex := fun b z => absurd (show b ∈ ([] : List Addr) from z) (by simp)
  refine ⟨⟨e0.mod, S.kind, rfl, rfl, Nat.le_refl _, fun y z c h1 h2 => ?_, fun y hy => ?_, fun y c _ h => ?_, fun _ => hd, Around.frames_deeper e0.frames, .inr ⟨rfl, rfl⟩, fun b z => absurd z (noA b), e0.bs, e0.bsz, fun b _ _ => noA b, fun b z => absurd z (noA b), e0.funs, e0.frf⟩,
    rfl, e0.bare, Un.kept hk, ⟨_, x.toInCall.ns, fun i y v h1 h2 h3 => ?_⟩, fun y c h => ⟨_, x.cell y c h⟩, e0.hok.fresh (Nat.le_refl _), fun y c h => ?_, fun p hp => absurd (show p ∈ ([] : List (Addr × Obj)) from hp) (by simp), e0.hok.kept hk, ?_⟩
  · exact name_of_addr x.apart (PySem.mem_of_lookup h1) (PySem.mem_of_lookup h2)
  · have hy : scope.names.lookup y = some .cell ∨ scope.names.lookup y = some .free := hy
    rcases hy with hy | hy
    · exact cell_has hy
    · exact absurd rfl (S.nofree _ (PySem.mem_of_lookup hy))
  · exact Nat.le_of_lt (x.above y c (PySem.mem_of_lookup h))
  · have hi : i < vs.length := by
      unfold start at h2
      by_cases hi : i < vs.length
      · exact hi
      · rw [List.getElem?_append_right (by simpa using hi)] at h2
        rw [List.getElem?_replicate] at h2
        split at h2 <;> cases h2
    have ha : vs[i]? = some v := by
      unfold start at h2
      rw [List.getElem?_append_left (by simpa using hi), List.getElem?_map] at h2
      cases e : vs[i]? with
      | none => rw [e] at h2; cases h2
      | some a => rw [e] at h2; cases h2; rfl
    obtain ⟨u, hu, rv⟩ := r.get ha
    have hp : ps[i]? = some y := by
      rw [← S.pre, List.getElem?_take_of_lt (by omega)]; exact h1
    have ndP : ps.Nodup := by rw [← S.pre]; exact S.nd.sublist (List.take_sublist _ _)
    refine ⟨u, rv, ?_⟩
    rcases S.par y (List.mem_of_getElem? hp) with k | k
    · exact .inl ⟨k, bindL_get ndP hp hu k⟩
    · obtain ⟨c, e⟩ := cell_has (n := s.heap.objs.size + 1) k
      refine .inr ⟨.inl k, c, e, ?_⟩
      have q := x.cell y c e
      rw [bindC_get ndP hp hu (by show scope.names.lookup y ≠ _; rw [k]; decide)] at q
      exact q
  · exact e0.hok.fresh (Nat.le_of_lt (x.above y c (PySem.mem_of_lookup h)))
  · unfold start
    show _ = N.length
    rw [List.length_append, List.length_map, List.length_replicate]
    omega

theorem fn_of {CX : CXT} {P : Program} {w : World} {K : PySem.W.Frag} {mg : Str → Option Value} {base : Heap} {k : Nat} {f : Addr} {name qual : Str} {params : Arguments} {body : List Stmt} {scope : Scope} {dV kV doc pm cdv ct oc : Value} {an od : Option Addr}
    {osl : Array (Option Value)} {N ps : List Str} {sp : Sp} (lk : K.lookup f = some ⟨oc, od, .func (PySem.W.fnOf name qual params body scope dV kV doc pm an cdv ct), osl⟩) (hcd : PySem.W.codeIn K cdv qual = true) (S : FnScope N ps scope)
    (len : ∀ vs H Q E, sp vs H Q E → vs.length = ps.length)
    (hbody : ∀ (A : Around) (outer : List Env) (s : Shared) (H : Hp) (vs : List V) (Q : VK) (E : XK), Room k (A.deeper (envOfC qual scope s.heap.objs.size f cdv)) → sp vs H Q E →
      ∃ t, PSs (cxOf CX P w K mg base N qual scope f cdv A outer s H E) body t ∧ t { nx := fun _ H' => Q .non H', rt := Q } (start N vs) H) :
    FnOk P w K mg base CX (k + 1) f (PySem.W.fnOf name qual params body scope dV kV doc pm an cdv ct) ps sp := by
  refine ⟨len, fun A outer s H args us vs Q E hr e0 hb r hsp => ?_⟩
  have hl := len _ _ _ _ hsp
  have KX : K.In s.heap := e0.mod.kin.keeps fun b o e => (e0.bs b o e).1
  have lim : s.heap.NoLimit := e0.mod.nolimit.keeps fun b o e => (e0.bs b o e).1
  have hkind : ∀ y ∈ ps.zip us, scope.names.lookup y.1 = some .local ∨ (scope.names.lookup y.1 = some .cell ∧ ((cellsFrom (s.heap.objs.size + 1) scope.names []).lookup y.1).isSome = true) := fun ⟨n, v⟩ hy => by
    rcases S.par n (List.of_mem_zip hy).1 with q | q
    · exact .inl q
    · exact .inr ⟨q, PySem.W.cellsFrom_some _ _ _ (.inl q)⟩
  refine codeAny_call_function hr.depth (KX _ _ lk) rfl S.co S.gen rfl (PySem.W.codeRec_of KX hcd) (hb _ _ _ _ ?_)
  refine wpAny_newFunctionEnv_cells S.kind hkind fun env he s1 x => ?_
  subst he
  refine ⟨lim.keeps x.toInCall.keep, codeAny_func ?_⟩
  obtain ⟨t, ht, hq⟩ := hbody A outer s H vs Q E (hr.deeper _) hsp
  have I : Inv (cxOf CX P w K mg base N qual scope f cdv A outer s H E) [] (start N vs) H s1 := inv_start S hr.hd e0 hl r x
  refine wpAny_mono (ht [] s1 (start N vs) H _ I hq) (fun fl s' hs => ?_) fun e s' hs => hs
  have fin : ∀ {σ' : St} {H' : Hp} {v : V} {u : Value}, Inv (cxOf CX P w K mg base N qual scope f cdv A outer s H E) [] σ' H' s' → RelV v u → Q v H' → CE outer P w H s Q u s' :=
    fun {σ' H' v u} J rv q => ⟨v, H', J.os, J.bare, J.base, J.hok, rv, q⟩
  cases fl with
  | ret u =>
    obtain ⟨v, σ', H', J, rv, q⟩ := hs
    exact fin J rv q
  | next =>
    obtain ⟨σ', H', J, q⟩ := hs
    exact fin (v := V.non) (u := Value.none) J rfl q
  | brk =>
    obtain ⟨_, _, _, q⟩ := hs
    exact False.elim q
  | cont =>
    obtain ⟨_, _, _, q⟩ := hs
    exact False.elim q
end L2

namespace L2
open PySem PySem.Spec PyProof.Rows
section
variable {X : Cx} {x : Str} {p pos : Pos} {e : Expr} {es : List Expr} {t : TA} {id T : String} {r : List V → Hp → VK → Prop}

def tCB (r : List V → Hp → VK → Prop) (t : TA) : TE := fun σ H Q => t σ H fun vs H1 => r vs H1 Q
theorem pe_callB (hc : CallR X (.builtin id) r) (hg : Gl X x) (hm : X.mg x = none) (hv : bootBuiltins x = some (.builtin id)) (ha : PA X (e :: es) t) (hn : x ≠ "__name__" := by decide) (hdb : (x == ("__debug__" : Str)) = false := by decide)
    (he : starEach (e :: es) X.env = (false, eval e X.env) :: starEach es X.env := by rfl) (hpl : (backTo pos (starEach es X.env)).any (·.1) = false := by rfl) : PE X (.Call (.Name x p) (e :: es) [] pos) (tCB r t) := by
  intro pins s σ H Q I h
  refine wpAny_Call_Name_kw (ld_blt I hg hm hv ?_ hn hdb)
  exact PyProof.Rows.callWith_builtin1 (thn (ha pos pins s σ H _ I h) fun us s1 ⟨vs, H1, I1, r1, q1⟩ => hc pins s1 σ H1 vs us Q I1 r1 q1) he hpl
theorem pe_callTy (hc : CallR X (.type T) r) (hg : Gl X x) (hm : X.mg x = none) (hv : bootBuiltins x = some (.type T)) (ha : PA X (e :: es) t) (hn : x ≠ "__name__" := by decide) (hdb : (x == ("__debug__" : Str)) = false := by decide)
    (he : starEach (e :: es) X.env = (false, eval e X.env) :: starEach es X.env := by rfl) (hpl : (backTo pos (starEach es X.env)).any (·.1) = false := by rfl) : PE X (.Call (.Name x p) (e :: es) [] pos) (tCB r t) := by
  intro pins s σ H Q I h
  refine wpAny_Call_Name_kw (ld_blt I hg hm hv ?_ hn hdb)
  exact PyProof.Rows.callWith_type1 (thn (ha pos pins s σ H _ I h) fun us s1 ⟨vs, H1, I1, r1, q1⟩ => hc pins s1 σ H1 vs us Q I1 r1 q1) he hpl
end
end L2

namespace HT
open PySem PyProof.Rows

def lexLt : List Int → List Int → Bool
  | [], [] => false
  | [], _ :: _ => true
  | _ :: _, [] => false
  | x :: xs, y :: ys => if x = y then lexLt xs ys else decide (x < y)
section
open PySem.SeqAt
open PySem.AutoSeq1 (wpAny_loadPart')
open PySem.MeetsSeq PySem.MeetsSeq2 PySem.MeetsSeq3

end

section
variable {prog : Program} {w : World} {A : Around} {E : Value → Shared → Prop} {s : Shared}

def sIx (n d : Nat) : Option Int → Nat
  | none => d
  | some v => if v < 0 then (v + (n : Int)).toNat else min v.toNat n
theorem sIx_nat (n d k : Nat) : sIx n d (some (k : Int)) = min k n := by
  show (if (k : Int) < 0 then ((k : Int) + (n : Int)).toNat else min (k : Int).toNat n) = min k n
  rw [if_neg (by omega), Int.toNat_natCast]
end
end HT

namespace L2
open PySem PySem.Spec PyProof.Rows

abbrev TO := St → Hp → (Option Int → Hp → Prop) → Prop
def PO (X : Cx) (e : Option Expr) (t : TO) : Prop :=
  ∀ (pins : List (Addr × Obj)) (s : Shared) (σ : St) (H : Hp) (Q : Option Int → Hp → Prop), Inv X pins σ H s → t σ H Q →
    wpAny (model X.prog X.w) X.A (evalPart e X.env) (fun u s' => ∃ o H', Inv X pins σ H' s' ∧ IsPart u o ∧ Q o H') X.xe s
def tNoPart : TO := fun _ H Q => Q none H
def tPart (t : TE) : TO := fun σ H Q => t σ H fun x H1 => ∃ i, x = .int i ∧ Q (some i) H1

section
variable {X : Cx} {e : Expr} {te : TE} {lo hi : Option Expr} {tl th : TO} {pos p2 : Pos}

theorem po_none : PO X none tNoPart := by
  intro pins s σ H Q I h
  rw [evalPart_none]
  exact wpAny_pure ⟨none, H, I, .none, h⟩
theorem po_some (h : PE X e te) : PO X (some e) (tPart te) := by
  intro pins s σ H Q I hw
  rw [evalPart_some]
  refine thn (h pins s σ H _ I hw) fun u s1 ⟨x, H1, I1, r1, q1⟩ => ?_
  obtain ⟨i, rfl, q⟩ := q1
  obtain ⟨t, rfl⟩ := r1
  exact ⟨some i, H1, I1, .int i t, q⟩

def SlR (X : Cx) (r : V → Option Int → Option Int → Hp → VK → Prop) : Prop :=
  ∀ (pins : List (Addr × Obj)) (s : Shared) (σ : St) (H : Hp) (x : V) (v vl vu : Value) (lo hi : Option Int) (sl : Addr) (Q : VK), Inv X pins σ H s → RelV x v → s.heap.IsSliceOf sl vl vu .none → IsPart vl lo → IsPart vu hi → r x lo hi H Q →
    ∃ T id, typeLookup (.type T) "__getitem__" = pure (some (.builtin id)) ∧ s.TypeIs v T ∧ wpAny (model X.prog X.w) X.A (getItem v (.ref sl)) (EP X pins σ Q) X.xe s
def tSl (r : V → Option Int → Option Int → Hp → VK → Prop) (te : TE) (tl th : TO) : TE := fun σ H Q => te σ H fun x H1 => tl σ H1 fun l H2 => th σ H2 fun u H3 => r x l u H3 Q
theorem pe_slice {r : V → Option Int → Option Int → Hp → VK → Prop} (hr : SlR X r) (he : PE X e te) (hl : PO X lo tl) (hu : PO X hi th) : PE X (.Subscript e (.Slice lo hi none p2) pos) (tSl r te tl th) := by
  intro pins s σ H Q I h
  refine Subscript_ (thn (he pins s σ H _ I h) fun v s1 ⟨x, H1, I1, r1, q1⟩ => ?_)
  refine wpAny_Slice (thn (hl pins s1 σ H1 _ I1 q1) fun vl s2 ⟨l, H2, I2, pl, q2⟩ => thn (hu pins s2 σ H2 _ I2 q2) fun vu s3 ⟨u, H3, I3, pu, q3⟩ => ?_)
  rw [evalPart_none]
  refine wpAny_pure ?_
  have I4 : Inv X pins σ H3 { s3 with heap := s3.heap.push { cls := .type "slice", data := .fields #[vl, vu, .none] } } := I3.kept (t' := s3.toks) fun b ob q => Heap.get?_push_of_some _ q
  obtain ⟨T, id, hT, ht, hg⟩ := hr pins { s3 with heap := s3.heap.push { cls := .type "slice", data := .fields #[vl, vu, .none] } } σ H3 x v vl vu l u s3.heap.objs.size Q I4 r1 (Heap.IsSliceOf.new ..) pl pu q3
  show wpAny (model X.prog X.w) X.A (subscriptTail e (.Slice lo hi none p2) v (.ref s3.heap.objs.size)) (EP X pins σ Q) X.xe { s3 with heap := s3.heap.push { cls := .type "slice", data := .fields #[vl, vu, .none] } }
  exact tail_any (ops := [.ref s3.heap.objs.size, v]) ht hT hg (by with_unfolding_all rfl)

def cutV (xs : List V) (lo hi : Option Int) : List V := (xs.drop (HT.sIx xs.length 0 lo)).take (HT.sIx xs.length xs.length hi - HT.sIx xs.length 0 lo)
theorem cutV_length (xs : List V) (lo hi : Option Int) : (cutV xs lo hi).length ≤ xs.length := by
  unfold cutV
  rw [List.length_take, List.length_drop]
  omega
def rSlT (K : PySem.W.Frag) : V → Option Int → Option Int → Hp → VK → Prop := fun x lo hi H Q => ∃ a xs, x = .ref a ∧ SqT K H a xs ∧
  ¬ (HT.sIx xs.length 0 lo = 0 ∧ HT.sIx xs.length xs.length hi = xs.length) ∧ ∀ p, H p = none → Q (.ref p) (upd H p (.tup (cutV xs lo hi)))
def rLtT (K : PySem.W.Frag) : R2 := fun x y H Q => ∃ a b ns ms, x = .ref a ∧ y = .ref b ∧ SqT K H a (ns.map V.int) ∧ SqT K H b (ms.map V.int) ∧ Q (.bl (HT.lexLt ns ms)) H
def rCatT (K : PySem.W.Frag) : R2 := fun x y H Q => ∃ a b xs ys, x = .ref a ∧ y = .ref b ∧ SqT K H a xs ∧ SqT K H b ys ∧ xs ≠ [] ∧ xs.length + ys.length ≤ sizeLine ∧
  (ys = [] → Q (.ref a) H) ∧ (ys ≠ [] → ∀ p, H p = none → Q (.ref p) (upd H p (.tup (xs ++ ys))))
end
end L2

namespace L2
open PySem PySem.Spec PyProof.Rows

def ixN (n : Nat) (i : Int) : Option Nat := if 0 ≤ i then (if i < n then some i.toNat else none) else if -(n : Int) ≤ i then some (i + n).toNat else none
def atI {α : Type} (xs : List α) (i : Int) : Option α := (ixN xs.length i).bind fun j => xs[j]?
theorem ixN_seq {n : Nat} {i : Int} {j : Nat} (h : ixN n i = some j) : seqIndex? i n = some j ∧ j < n ∧ -(n : Int) ≤ i ∧ i < n := by
  unfold ixN at h
  by_cases h0 : 0 ≤ i
  · rw [if_pos h0] at h
    by_cases h1 : i < n
    · rw [if_pos h1] at h
      have e : i.toNat = j := Option.some.inj h
      exact ⟨by rw [seqIndex_of h0 h1, e], by omega, by omega, h1⟩
    · rw [if_neg h1] at h; cases h
  · rw [if_neg h0] at h
    by_cases h1 : -(n : Int) ≤ i
    · rw [if_pos h1] at h
      have e : (i + n).toNat = j := Option.some.inj h
      exact ⟨by rw [seqIndex_neg (by omega) h1, e], by omega, h1, by omega⟩
    · rw [if_neg h1] at h; cases h
theorem atI_get {α : Type} {xs : List α} {i : Int} {v : α} (h : atI xs i = some v) : ∃ j, seqIndex? i xs.length = some j ∧ xs[j]? = some v ∧ j < xs.length ∧ -(xs.length : Int) ≤ i ∧ i < xs.length := by
  unfold atI at h
  cases e : ixN xs.length i with
  | none => rw [e] at h; cases h
  | some j =>
    rw [e] at h
    obtain ⟨h1, h2, h3, h4⟩ := ixN_seq e
    exact ⟨j, h1, h, h2, h3, h4⟩
theorem atI_nat {α : Type} {xs : List α} {j : Nat} {v : α} (h : xs[j]? = some v) : atI xs (j : Int) = some v := by
  have hj : j < xs.length := (List.getElem?_eq_some_iff.mp h).1
  have e : ixN xs.length (j : Int) = some j := by
    unfold ixN
    rw [if_pos (by omega), if_pos (by omega)]; simp
  unfold atI; rw [e]; exact h
def PlainIx (b : Expr) : Prop := ∀ o i, subscripted b false o i = operate [o, i] (getItem o i)
def IxR (X : Cx) (r : R2) : Prop :=
  ∀ (value slice : Expr) (pins : List (Addr × Obj)) (s : Shared) (σ : St) (H : Hp) (x y : V) (v u : Value) (Q : VK), Inv X pins σ H s → RelV x v → RelV y u → r x y H Q →
    subscripted slice false v u = operate [v, u] (getItem v u) → wpAny (model X.prog X.w) X.A (subscriptTail value slice v u) (EP X pins σ Q) X.xe s
def MtR (X : Cx) (id : String) (r : V → List V → Hp → VK → Prop) : Prop :=
  ∀ (pins : List (Addr × Obj)) (s : Shared) (σ : St) (H : Hp) (x : V) (xs : List V) (v : Value) (us : List Value) (Q : VK), Inv X pins σ H s → RelV x v → Vals xs us → r x xs H Q →
    wpAny (model X.prog X.w) X.A (call (.builtin id) (v :: us)) (EP X pins σ Q) X.xe s
section
variable {X : Cx} {a b : Expr} {ta tb : TE} {pos : Pos}
theorem IxR.or {r r' : R2} (h : IxR X r) (h' : IxR X r') : IxR X (fun x y H Q => r x y H Q ∨ r' x y H Q) := by
  intro value slice pins s σ H x y v u Q I rx ry q hs
  rcases q with q | q
  · exact h value slice pins s σ H x y v u Q I rx ry q hs
  · exact h' value slice pins s σ H x y v u Q I rx ry q hs
theorem pe_ix {r : R2} (hr : IxR X r) (ha : PE X a ta) (hb : PE X b tb) (hs : PlainIx b) : PE X (.Subscript a b pos) (tOp r ta tb) := by
  intro pins s σ H Q I h
  exact Subscript_ (binT ha hb I h fun v u s2 x y H2 I2 rx ry q => hr a b pins s2 σ H2 x y v u Q I2 rx ry q (hs _ _))

def rIxL (K : PySem.W.Frag) : R2 := fun x y H Q => ∃ p xs i v, x = .ref p ∧ y = .int i ∧ SqL K H p xs ∧ atI xs i = some v ∧ Q v H
def rIxT (K : PySem.W.Frag) : R2 := fun x y H Q => ∃ p xs i v, x = .ref p ∧ y = .int i ∧ SqT K H p xs ∧ atI xs i = some v ∧ Q v H
def rIxS : R2 := fun x y H Q => ∃ z i c, x = .str z ∧ y = .int i ∧ z.length ≤ sizeLine ∧ atI z.cps.toList i = some c ∧ Q (.str ⟨#[c]⟩) H
theorem ix_list : IxR X (rIxL X.K) := by
  intro value slice pins s σ H x y v u Q I rx ry h hs
  obtain ⟨p, xs, i, z, rfl, rfl, hq, he, q⟩ := h
  cases rx
  obtain ⟨t, rfl⟩ := ry
  obtain ⟨its, r, pl, hz⟩ := I.list hq
  obtain ⟨j, h1, h2, h3, h4, h5⟩ := atI_get he
  obtain ⟨w, ew, rw'⟩ := r.get h2
  have hl := r.length
  have hn := line63
  have fin : EP X pins σ Q w s := ⟨z, H, I, rw', q⟩
  by_cases h0 : 0 ≤ i
  · have hj : i.toNat = j := by
      rw [seqIndex_of h0 h5] at h1
      exact Option.some.inj h1
    exact item_listR pl.isList h0 (by omega) (by rw [hj]; simpa using ew) fin hs
  · have hj : (i + (its.toArray.size : Int)).toNat = j := by
      rw [seqIndex_neg (by omega) h4] at h1
      rw [List.size_toArray, ← hl]
      exact Option.some.inj h1
    exact subscriptTail_builtinR (x := w) pl.isList.typeIs slot_list_getitem.lookup
      (wpAny_getItem_list_neg (Q := fun r s' => r = w ∧ EP X pins σ Q r s') pl.isList (by omega) (by rw [List.size_toArray] <;> omega) (by omega) (by rw [hj]; simpa using ew) ⟨rfl, fin⟩) hs
theorem ix_tup : IxR X (rIxT X.K) := by
  intro value slice pins s σ H x y v u Q I rx ry h hs
  obtain ⟨p, xs, i, z, rfl, rfl, hq, he, q⟩ := h
  cases rx
  obtain ⟨t, rfl⟩ := ry
  obtain ⟨its, r, pl, hz⟩ := I.tuple hq
  obtain ⟨j, h1, h2, h3, h4, h5⟩ := atI_get he
  obtain ⟨w, ew, rw'⟩ := r.get h2
  have hl := r.length
  have hn := line63
  have fin : EP X pins σ Q w s := ⟨z, H, I, rw', q⟩
  exact subscriptTail_builtinR (x := w) pl.typeIs slot_tuple_getitem.lookup
    (getItem_tuple (j := j) (Q := fun r s' => r = w ∧ EP X pins σ Q r s') pl (by omega) (by omega) (by rw [List.size_toArray, ← hl]; exact h1) (by simpa using ew) ⟨rfl, fin⟩) hs
theorem ix_str : IxR X rIxS := by
  intro value slice pins s σ H x y v u Q I rx ry h hs
  obtain ⟨z, i, c, rfl, rfl, hz, he, q⟩ := h
  obtain ⟨t, rfl⟩ := rx
  obtain ⟨t', rfl⟩ := ry
  obtain ⟨j, h1, h2, h3, h4, h5⟩ := atI_get he
  have hl : z.cps.toList.length = z.length := by simp [Str.length]
  rw [hl] at h1 h4 h5
  have hn := line63
  exact tail_any (typeIs_str s z t) slot_str_getitem.lookup (getItem_str (c := c) (by
    have e1 : decide (i < -(2 ^ 63 : Int)) = false := decide_eq_false (by omega)
    have e2 : decide (i ≥ 2 ^ 63) = false := decide_eq_false (by omega)
    rw [e1, e2, Bool.or_false]) (by rw [h1]; simpa using h2) ⟨.str ⟨#[c]⟩, H, I.tok _, ⟨_, rfl⟩, q⟩) hs
def rIx (K : PySem.W.Frag) : R2 := fun x y H Q => rIxL K x y H Q ∨ rIxT K x y H Q ∨ rIxS x y H Q
theorem ix_seq : IxR X (rIx X.K) := ix_list.or (ix_tup.or ix_str)

theorem mapSeq_set (its : List Value) (n j : Nat) (u : Value) : Obj.mapSeq (·.setIfInBounds j u) { cls := .type "list", data := .seq its.toArray n } = { cls := .type "list", data := .seq (its.set j u).toArray n } := by
  simp [Obj.mapSeq]
theorem Inv.lst {pins : List (Addr × Obj)} {σ : St} {H : Hp} {s : Shared} {p : Addr} {xs : List V} (I : Inv X pins σ H s) (h : H p = some (.lst xs)) :
    ∃ (its : List Value) (n : Nat), Vals xs its ∧ s.heap.get? p = some { cls := .type "list", data := .seq its.toArray n } ∧ xs.length ≤ sizeLine := by
  obtain ⟨z, its, n, r, e⟩ := I.hok p _ h
  exact ⟨its, n, r, e, z⟩
theorem Inv.lstUpd {pins : List (Addr × Obj)} {σ : St} {H : Hp} {s : Shared} {p : Addr} {xs ys : List V} {its its' : List Value} {n n' : Nat} {f : Obj → Obj} (I : Inv X pins σ H s) (h : H p = some (.lst xs))
    (ho : s.heap.get? p = some { cls := .type "list", data := .seq its.toArray n }) (hf : f { cls := .type "list", data := .seq its.toArray n } = { cls := .type "list", data := .seq its'.toArray n' }) (r : Vals ys its') (hz : ys.length ≤ sizeLine) (t : Nat) :
    Inv X pins σ (upd H p (.lst ys)) { s with heap := s.heap.update p f, toks := t } := by
  have e : (s.heap.update p f).get? p = some { cls := .type "list", data := .seq its'.toArray n' } := by
    rw [Heap.get?_update_self f ho (by rw [hf] <;> rfl), hf]
  refine I.write (x := p) (e := p) (by rw [h]; trivial) (.inl rfl) (fun b u hb q => (Heap.get?_update_other _ _ (Ne.symm hb)).trans q) ⟨_, e⟩ ?_
  exact ⟨hz, its', n', r, e⟩
def rSetL : V → V → V → Hp → (Hp → Prop) → Prop := fun o i v H Q => ∃ p xs k j, o = .ref p ∧ i = .int k ∧ H p = some (.lst xs) ∧ ixN xs.length k = some j ∧ Q (upd H p (.lst (xs.set j v)))
theorem set_list : PSet X rSetL := by
  intro pins s σ H o i v ov iv u Q I ro ri rv h
  obtain ⟨p, xs, k, j, rfl, rfl, hp, hj, q⟩ := h
  cases ro
  obtain ⟨t, rfl⟩ := ri
  obtain ⟨its, n, r, ho, hz⟩ := I.lst hp
  obtain ⟨h1, h2, h3, h4⟩ := ixN_seq hj
  have hl := r.length
  have hn := line63
  have I' : Inv X pins σ (upd H p (.lst (xs.set j v))) { s with heap := s.heap.update p (Obj.mapSeq (·.setIfInBounds j u)) } :=
    I.lstUpd hp ho (mapSeq_set its n j u) (r.set rv j) (by rw [List.length_set]; exact hz) s.toks
  by_cases h0 : 0 ≤ k
  · have hk : k.toNat = j := by
      rw [seqIndex_of h0 h4] at h1
      exact Option.some.inj h1
    exact PySem.W.ki_setAt ho h0 (by omega) (by rw [List.size_toArray, ← hl]; exact h4) (by rw [hk]; exact ⟨_, I', q⟩)
  · have hk : (k + (its.toArray.size : Int)).toNat = j := by
      rw [seqIndex_neg (by omega) h3] at h1
      rw [List.size_toArray, ← hl]
      exact Option.some.inj h1
    exact PySem.W.ki_setBack ho (by omega) (by rw [List.size_toArray, ← hl]; exact h3) (by omega) (by rw [hk]; exact ⟨_, I', q⟩)

theorem slice_bounds (lo hi : Option Int) (n : Nat) : (sliceBounds lo hi none n).1 = ((HT.sIx n 0 lo : Nat) : Int) ∧ (sliceBounds lo hi none n).2.1 = ((HT.sIx n n hi : Nat) : Int) ∧ (sliceBounds lo hi none n).2.2 = 1 := by
  refine ⟨?_, ?_, rfl⟩
  · cases lo with
    | none => simp [sliceBounds, HT.sIx]
    | some i =>
      simp only [sliceBounds, HT.sIx, Option.getD_none, show (1 : Int) > 0 by decide, if_true]
      by_cases h : i < 0
      · simp only [h, if_true] <;> omega
      · simp only [h, if_false] <;> omega
  · cases hi with
    | none => simp [sliceBounds, HT.sIx]
    | some i =>
      simp only [sliceBounds, HT.sIx, Option.getD_none, show (1 : Int) > 0 by decide, if_true]
      by_cases h : i < 0
      · simp only [h, if_true] <;> omega
      · simp only [h, if_false] <;> omega
theorem slicePick_cut (its : List Value) (lo hi : Option Int) : slicePick its.toArray lo hi none = ((its.drop (HT.sIx its.length 0 lo)).take (HT.sIx its.length its.length hi - HT.sIx its.length 0 lo)).toArray := by
  obtain ⟨h1, h2, h3⟩ := slice_bounds lo hi its.toArray.size
  unfold slicePick
  rw [h1, h2, h3]
  simp only [sliceRange_one, pick_run, List.size_toArray] <;> rfl
def rSlL (K : PySem.W.Frag) : V → Option Int → Option Int → Hp → VK → Prop := fun x lo hi H Q => ∃ a xs, x = .ref a ∧ SqL K H a xs ∧ ∀ p, H p = none → Q (.ref p) (upd H p (.lst (cutV xs lo hi)))
theorem sl_list : SlR X (rSlL X.K) := by
  intro pins s σ H x v vl vu lo hi sl Q I rx hs pl pu h
  obtain ⟨a, xs, rfl, hx, q⟩ := h
  cases rx
  obtain ⟨its, r, ht, hz⟩ := I.list hx
  have hlen := r.length
  refine ⟨"list", _, slot_list_getitem.lookup, ht.isList.typeIs, ?_⟩
  refine wpAny_getItem_list_slice ht.isList hs pl pu .none (by simp) ?_ (by rw [List.size_toArray] <;> omega)
  rw [slicePick_cut, ← hlen]
  refine ⟨.ref s.heap.objs.size, _, I.laid (t' := s.toks) (o := .lst (cutV xs lo hi)) (fun b ob q => Heap.get?_push_of_some _ q) (Nat.le_refl _) ?_, rfl, q _ (I.hok.fresh (Nat.le_refl _))⟩
  exact ⟨Nat.le_trans (cutV_length xs lo hi) hz, _, 0, (r.drop (HT.sIx xs.length 0 lo)).take (HT.sIx xs.length xs.length hi - HT.sIx xs.length 0 lo), Heap.get?_push_size _ rfl⟩

def flatV : V → Bool
  | .non => true
  | .bl _ => true
  | .int _ => true
  | .str _ => true
  | _ => false
def eqV : V → V → Bool
  | .non, .non => true
  | .bl a, .bl b => a == b
  | .bl a, .int b => (if a then 1 else 0) == b
  | .int a, .bl b => a == (if b then 1 else 0)
  | .int a, .int b => a == b
  | .str a, .str b => a == b
  | _, _ => false
def eqU (x : V) (u : Value) : Bool := match u with
  | .none => eqV .non x
  | .bool b => eqV (.bl b) x
  | .int i _ => eqV (.int i) x
  | .str z _ => eqV (.str z) x
  | _ => false
def inV (x : V) (xs : List V) : Bool := xs.any fun y => eqV y x
def rIn (K : PySem.W.Frag) (neg : Bool) : R2 := fun x y H Q => ∃ p xs, y = .ref p ∧ (SqL K H p xs ∨ SqT K H p xs) ∧ flatV x = true ∧ xs.all flatV = true ∧ Q (.bl (if neg then !inV x xs else inV x xs)) H
theorem call_len_seq : CallR X (.builtin "len") (fun xs H Q => ∃ p ys, xs = [.ref p] ∧ (SqL X.K H p ys ∨ SqT X.K H p ys) ∧ Q (.int ys.length) H) := by
  intro pins s σ H xs us Q I r h
  obtain ⟨p, ys, rfl, hq, q⟩ := h
  obtain ⟨u, rfl, rx⟩ := vals1 r
  cases rx
  have hn := line63
  rcases hq with hq | hq
  · obtain ⟨its, r', pl, hz⟩ := I.list hq
    have hlen := r'.length
    exact Calls.call_len_list pl.isList (by simp only [List.size_toArray] <;> omega) ⟨.int ys.length, H, I.tok _, ⟨s.toks + 1, by rw [List.size_toArray, hlen]⟩, q⟩
  · obtain ⟨its, r', pl, hz⟩ := I.tuple hq
    have hlen := r'.length
    exact len_tuple pl (by simp only [List.size_toArray] <;> omega) ⟨.int ys.length, H, I.tok _, ⟨s.toks + 1, by rw [List.size_toArray, hlen]⟩, q⟩
theorem call_len_str : CallR X (.builtin "len") (fun xs H Q => ∃ z, xs = [.str z] ∧ z.length ≤ sizeLine ∧ Q (.int z.length) H) := by
  intro pins s σ H xs us Q I r h
  obtain ⟨z, rfl, hz, q⟩ := h
  obtain ⟨u, rfl, t, rfl⟩ := vals1 r
  have hn := line63
  exact len_str (by omega) ⟨.int z.length, H, I.tok _, ⟨_, rfl⟩, q⟩
def tyV (K : PySem.W.Frag) (T : String) (x : V) (H : Hp) : Prop := match x with
  | .str _ => T = "str"
  | .int _ => T = "int"
  | .ref p => (T = "list" ∧ ∃ xs, SqL K H p xs) ∨ (T = "tuple" ∧ ∃ o, K.lookup p = some o ∧ o.cls = .type "tuple" ∧ o.dict = none) ∨
      (T = "dict" ∧ ((∃ kvs, H p = some (.dK kvs)) ∨ ∃ kvs, H p = some (.dT kvs))) ∨ (T = "set" ∧ ∃ S n, H p = some (.set S n))
  | _ => False
theorem tyV_is {pins : List (Addr × Obj)} {σ : St} {H : Hp} {s : Shared} {T : String} {x : V} {v : Value} (I : Inv X pins σ H s) (r : RelV x v) (ty : tyV X.K T x H) :
    s.TypeIs v T ∧ ∀ a, v = .ref a → ∃ ob, s.heap.get? a = some ob ∧ ob.dict = none := by
  cases x with
  | str z =>
    obtain ⟨t, rfl⟩ := r
    cases (show T = "str" from ty)
    exact ⟨typeIs_str s z t, fun _ e => nomatch e⟩
  | int i =>
    obtain ⟨t, rfl⟩ := r
    cases (show T = "int" from ty)
    exact ⟨typeIs_int s i t, fun _ e => nomatch e⟩
  | ref p =>
    cases r
    rcases ty with ⟨rfl, xs, hq⟩ | ⟨rfl, o, hk, hc, hd⟩ | ⟨rfl, hk⟩ | ⟨rfl, S, n, hk⟩
    · obtain ⟨its, _, pl, _⟩ := I.list hq
      refine ⟨pl.isList.typeIs, fun a e => ?_⟩
      cases e
      obtain ⟨o, n, e, c, hd, _⟩ := pl
      exact ⟨o, e, hd⟩
    · refine ⟨⟨o, I.kIn p o hk, hc⟩, fun a e => ?_⟩
      cases e
      exact ⟨o, I.kIn _ o hk, hd⟩
    · have z : ∃ o, s.heap.get? p = some o ∧ o.ExactDict := by
        rcases hk with ⟨kvs, hk⟩ | ⟨kvs, hk⟩
        · obtain ⟨_, _, _, _, o, _, _, e, ex, _⟩ := I.hok p _ hk
          exact ⟨o, e, ex⟩
        · obtain ⟨_, _, _, _, o, _, _, e, ex, _⟩ := I.hok p _ hk
          exact ⟨o, e, ex⟩
      obtain ⟨o, e, ex⟩ := z
      refine ⟨⟨o, e, ex.1⟩, fun a e2 => ?_⟩
      cases e2
      exact ⟨o, e, ex.2.1⟩
    · obtain ⟨o, _, _, _, e, ex, _⟩ := I.hok p _ hk
      refine ⟨⟨o, e, ex.1⟩, fun a e2 => ?_⟩
      cases e2
      exact ⟨o, e, ex.2.1⟩
  | _ => exact False.elim ty
def tBM0 (K : PySem.W.Frag) (T : String) (r : V → List V → Hp → VK → Prop) (to : TE) : TE := fun σ H Q => to σ H fun x H1 => tyV K T x H1 ∧ r x [] H1 Q
def tBM (K : PySem.W.Frag) (T : String) (r : V → List V → Hp → VK → Prop) (to : TE) (t : TA) : TE := fun σ H Q => to σ H fun x H1 => tyV K T x H1 ∧ t σ H1 fun xs H2 => r x xs H2 Q
variable {o e : Expr} {es : List Expr} {to : TE} {t : TA} {name : Str} {apos cpos : Pos} {T id : String} {r : V → List V → Hp → VK → Prop}
theorem pe_bm0 (pa : PlainAttrs T) (slot : Slot T name id) (hty : typeOf (.builtin id) = pure (.type "method_descriptor")) (hm : MtR X id r) (ho : PE X o to)
    (hbase : attributeBase o name X.env (eval o X.env) = eval o X.env := by rfl) (hline : (apos.endLine == cpos.line) = true := by rfl) : PE X (.Call (.Attribute o name apos) [] [] cpos) (tBM0 X.K T r to) := by
  intro pins s σ H Q I h
  refine wpAny_Call_method0_late hbase hline (thn (ho pins s σ H _ I h) fun v s1 ⟨x, H1, I1, r1, ty, q1⟩ => ?_)
  obtain ⟨h1, h2⟩ := tyV_is I1 r1 ty
  exact ⟨T, id, pa, slot, hty, h1, h2, Calls.callWith_builtin rfl (PySem.evalArgs_none (hm pins s1 σ H1 x [] v [] Q I1 r1 .nil q1))⟩
theorem pe_bm (pa : PlainAttrs T) (slot : Slot T name id) (hty : typeOf (.builtin id) = pure (.type "method_descriptor")) (hm : MtR X id r) (ho : PE X o to) (ha : PA X (e :: es) t)
    (hbase : attributeBase o name X.env (eval o X.env) = eval o X.env := by rfl)
    (hfew : ((backTo cpos (starEach (e :: es) X.env)).all (fun x => !x.1) && (backToKw cpos (keywordEach [] X.env)).all (fun x => x.1.isSome)
      && decide ((e :: es).length + ([] : List Keyword).length + (if ([] : List Keyword).isEmpty then 0 else 1) < 30)) = true := by rfl)
    (hline : (apos.endLine == cpos.line) = true := by rfl) (hs : starEach (e :: es) X.env = (false, eval e X.env) :: starEach es X.env := by rfl) (hplain : (backTo cpos (starEach es X.env)).any (·.1) = false := by rfl) :
    PE X (.Call (.Attribute o name apos) (e :: es) [] cpos) (tBM X.K T r to t) := by
  intro pins s σ H Q I h
  refine wpAny_Call_method_late hbase hfew hline rfl (thn (ho pins s σ H _ I h) fun v s1 ⟨x, H1, I1, r1, ty, q1⟩ => ?_)
  obtain ⟨h1, h2⟩ := tyV_is I1 r1 ty
  refine ⟨T, id, pa, slot, hty, h1, h2, ?_⟩
  have hA := ha cpos pins s1 σ H1 _ I1 q1
  rw [hs] at hA ⊢
  refine Calls.callWith_builtin (by show (false || (backTo cpos (starEach es X.env)).any (·.1)) = false; rw [hplain] <;> rfl) (Calls.evalArgs_plain ?_)
  exact thn hA fun us s2 ⟨vs, H2, I2, r2, q2⟩ => hm pins s2 σ H2 x vs v us Q I2 r1 r2 q2
/- xs.append(e), list.index on a module's tuple .. are MtR facts of 06m -/
end
end L2

namespace L2
open PySem PySem.Spec PyProof.Rows

def MtM (X : Cx) (id : String) (r : V → List V → Hp → VK → Prop) : Prop :=
  ∀ (pins : List (Addr × Obj)) (s : Shared) (σ : St) (H : Hp) (x : V) (xs : List V) (v : Value) (us : List Value) (Q : VK), Inv X pins σ H s → RelV x v → Vals xs us → r x xs H Q →
    wpAny (model X.prog X.w) X.A (call (.builtin id) (v :: us)) (EP X pins σ Q) X.xe s

theorem Vals.one : ∀ {x : V} {us : List Value}, Vals [x] us → ∃ u, us = [u] ∧ RelV x u
  | _, _, .cons r .nil => ⟨_, rfl, r⟩
theorem Vals.zero : ∀ {us : List Value}, Vals [] us → us = []
  | _, .nil => rfl
theorem Vals.dropLast {xs : List V} {us : List Value} (h : Vals xs us) : Vals xs.dropLast us.dropLast := by
  induction h with
  | nil => exact .nil
  | cons r t ih =>
    cases t with
    | nil => exact .nil
    | cons q t' => exact .cons r ih
theorem Vals.reverse {xs : List V} {us : List Value} (h : Vals xs us) : Vals xs.reverse us.reverse := by
  induction h with
  | nil => exact .nil
  | cons r t ih => rw [List.reverse_cons, List.reverse_cons]; exact Vals.append ih (.cons r .nil)
theorem erase_last {α : Type} (l : List α) : l.eraseIdx (l.length - 1) = l.dropLast := by
  induction l with
  | nil => rfl
  | cons a r ih =>
    cases r with
    | nil => rfl
    | cons b r =>
      have e : (a :: b :: r).length - 1 = ((b :: r).length - 1) + 1 := by
        have h1 : (a :: b :: r).length = r.length + 2 := rfl
        have h2 : (b :: r).length = r.length + 1 := rfl
        omega
      rw [e, List.eraseIdx_cons_succ, ih]
      all_goals rfl
section
variable {X : Cx} {pins : List (Addr × Obj)} {σ : St} {H : Hp} {s : Shared} {l b : Addr} {xs ys zs : List V}

theorem Inv.lset {its its' : List Value} {n : Nat} {f : Array Value → Array Value} {t' : Nat} (I : Inv X pins σ H s) (hH : H l = some (.lst xs))
    (e : s.heap.get? l = some { cls := .type "list", data := .seq its.toArray n }) (hf : f its.toArray = its'.toArray) (hv : Vals ys its') (hz : ys.length ≤ sizeLine) :
    Inv X pins σ (upd H l (.lst ys)) { s with heap := s.heap.update l (Obj.mapSeq f), toks := t' } := by
  have q := PySem.IsL.update e f
  rw [hf] at q
  refine I.write (x := l) (e := l) (by rw [hH]; exact trivial) (.inl rfl) (fun b' u hb hu => (Heap.get?_update_other s.heap (Obj.mapSeq f) (Ne.symm hb)).trans hu) ⟨_, q⟩ ?_
  exact ⟨hz, its', _, hv, q⟩
theorem Inv.lnew {its : List Value} {t' : Nat} (I : Inv X pins σ H s) (hv : Vals ys its) (hz : ys.length ≤ sizeLine) :
    Inv X pins σ (upd H s.heap.objs.size (.lst ys)) { s with heap := s.heap.push { cls := .type "list", data := .seq its.toArray }, toks := t' } :=
  I.laid (fun _ _ q => Heap.get?_push_of_some _ q) (Nat.le_refl _) ⟨hz, its, 0, hv, Heap.get?_push_size _ rfl⟩
theorem Inv.fresh (I : Inv X pins σ H s) : H s.heap.objs.size = none := I.hok.fresh (Nat.le_refl _)
theorem Inv.lstM (I : Inv X pins σ H s) (hH : H l = some (.lst xs)) : xs.length ≤ sizeLine ∧ ∃ (its : List Value) (n : Nat), Vals xs its ∧ xs.length = its.length ∧ s.heap.get? l = some { cls := .type "list", data := .seq its.toArray n } := by
  obtain ⟨z, its, n, r, e⟩ := I.hok l _ hH
  exact ⟨z, its, n, r, r.length, e⟩

theorem notLongL {n : Nat} (h : n ≤ sizeLine) : Builtin.List.listTooLong n = false := by
  unfold Builtin.List.listTooLong
  exact decide_eq_false (by omega)
end

section
variable {X : Cx}

def rAppend : V → List V → Hp → VK → Prop := fun x vs H Q => ∃ l xs y, x = .ref l ∧ vs = [y] ∧ H l = some (.lst xs) ∧ xs.length < sizeLine ∧ Q .non (upd H l (.lst (xs ++ [y])))
theorem mt_append : MtM X "list.append" rAppend := by
  intro pins s σ H x vs v us Q I rx rv h
  obtain ⟨l, xs, y, rfl, rfl, hH, hz, q⟩ := h
  cases rx
  obtain ⟨u, rfl, ru⟩ := rv.one
  obtain ⟨z, its, n, r, hl, e⟩ := I.lstM hH
  refine call_meets F.slot_list_append ⟨_, e, rfl⟩ F.entry_list_append (F.args_list_append_2 _ _) (PySem.list_append l its.toArray n u (by rw [List.size_toArray]; omega)) ⟨e, ?_⟩
  refine ⟨.non, _, I.lset (its' := its ++ [u]) hH e (by simp) (r.append (.cons ru .nil)) ?_, rfl, q⟩
  rw [List.length_append, List.length_singleton]
  omega

def rExtend : V → List V → Hp → VK → Prop := fun x vs H Q => ∃ l b xs zs, x = .ref l ∧ vs = [.ref b] ∧ H l = some (.lst xs) ∧ H b = some (.lst zs) ∧ xs.length + zs.length ≤ sizeLine ∧ Q .non (upd H l (.lst (xs ++ zs)))
theorem mt_extend : MtM X "list.extend" rExtend := by
  intro pins s σ H x vs v us Q I rx rv h
  obtain ⟨l, b, xs, zs, rfl, rfl, hH, hB, hz, q⟩ := h
  cases rx
  obtain ⟨u, rfl, ru⟩ := rv.one
  cases ru
  obtain ⟨z, its, n, r, hl, e⟩ := I.lstM hH
  obtain ⟨z2, its2, n2, r2, hl2, e2⟩ := I.lstM hB
  have hsz : its.toArray.size + its2.toArray.size ≤ sizeLine := by rw [List.size_toArray, List.size_toArray]; omega
  have hlong : ¬ (!its.toArray.isEmpty && Builtin.List.listTooLong (its.toArray.size + its2.toArray.size)) = true := by
    rw [notLongL hsz, Bool.and_false]
    exact Bool.false_ne_true
  refine call_meets F.slot_list_extend ⟨_, e, rfl⟩ F.entry_list_extend (F.args_list_extend_2 _ _)
    (AutoSeq1.list_extend_list_list_0 l its.toArray n b its2.toArray n2 hlong (by rw [List.size_toArray]; omega) (by omega)) ⟨e, e2, ?_⟩
  refine ⟨.non, _, I.lset (its' := its ++ its2) hH e (by simp) (r.append r2) ?_, rfl, q⟩
  rw [List.length_append]
  omega

def rPop : V → List V → Hp → VK → Prop := fun x vs H Q => ∃ l xs y, x = .ref l ∧ vs = [] ∧ H l = some (.lst xs) ∧ xs[xs.length - 1]? = some y ∧ Q y (upd H l (.lst xs.dropLast))
theorem mt_pop : MtM X "list.pop" rPop := by
  intro pins s σ H x vs v us Q I rx rv h
  obtain ⟨l, xs, y, rfl, rfl, hH, hy, q⟩ := h
  cases rx
  have hus := rv.zero
  subst hus
  obtain ⟨z, its, n, r, hl, e⟩ := I.lstM hH
  obtain ⟨u, hu, ru⟩ := r.get hy
  have hy' : its.toArray[its.toArray.size - 1]? = some u := by
    show its.toArray[its.length - 1]? = some u
    rw [← Array.getElem?_toList, ← hl]
    exact hu
  refine call_meets F.slot_list_pop ⟨_, e, rfl⟩ F.entry_list_pop (F.args_list_pop_1 _) (MeetsSeq.list_pop_last l its.toArray n u hy' (by rw [List.size_toArray]; omega)) ⟨e, ?_⟩
  refine ⟨y, _, I.lset (its' := its.dropLast) hH e ?_ r.dropLast ?_, ru, q⟩
  · show its.toArray.eraseIdxIfInBounds (its.toArray.size - 1) = its.dropLast.toArray
    rw [List.size_toArray, List.eraseIdxIfInBounds_toArray, erase_last]
  · rw [List.length_dropLast]
    omega

def rPopAt : V → List V → Hp → VK → Prop := fun x vs H Q => ∃ l xs i k y, x = .ref l ∧ vs = [.int i] ∧ H l = some (.lst xs) ∧ -(2 ^ 63) ≤ i ∧ i < 2 ^ 63 ∧ seqIndex? i xs.length = some k ∧ xs[k]? = some y ∧ Q y (upd H l (.lst (xs.eraseIdx k)))
def rReverse : V → List V → Hp → VK → Prop := fun x vs H Q => ∃ l xs, x = .ref l ∧ vs = [] ∧ H l = some (.lst xs) ∧ Q .non (upd H l (.lst xs.reverse))
theorem mt_reverse : MtM X "list.reverse" rReverse := by
  intro pins s σ H x vs v us Q I rx rv h
  obtain ⟨l, xs, rfl, rfl, hH, q⟩ := h
  cases rx
  have hus := rv.zero
  subst hus
  obtain ⟨z, its, n, r, hl, e⟩ := I.lstM hH
  refine call_meets F.slot_list_reverse ⟨_, e, rfl⟩ F.entry_list_reverse (F.args_list_reverse_1 _) (AutoSeq1.list_reverse_list_0 l its.toArray n (by rw [List.size_toArray]; omega)) ⟨e, ?_⟩
  refine ⟨.non, _, I.lset (its' := its.reverse) hH e (by simp) r.reverse ?_, rfl, q⟩
  rw [List.length_reverse]
  omega

def rClear : V → List V → Hp → VK → Prop := fun x vs H Q => ∃ l xs, x = .ref l ∧ vs = [] ∧ H l = some (.lst xs) ∧ Q .non (upd H l (.lst []))
def rCat : R2 := fun x y H Q => ∃ l b xs zs, x = .ref l ∧ y = .ref b ∧ H l = some (.lst xs) ∧ H b = some (.lst zs) ∧ xs.length + zs.length ≤ sizeLine ∧ ∀ p, H p = none → Q (.ref p) (upd H p (.lst (xs ++ zs)))
theorem op_cat : OpR X (binaryOp .Add) rCat := by
  intro pins s σ H x y v u Q I rx ry h
  obtain ⟨l, b, xs, zs, rfl, rfl, hH, hB, hz, q⟩ := h
  cases rx
  cases ry
  obtain ⟨z, its, n, r, hl, e⟩ := I.lstM hH
  obtain ⟨z2, its2, n2, r2, hl2, e2⟩ := I.lstM hB
  refine PySem.P.add_list e e2 ?_ (by rw [List.size_toArray, List.size_toArray]; omega)
  have ea : its.toArray ++ its2.toArray = (its ++ its2).toArray := by simp
  rw [ea]
  exact ⟨.ref _, _, I.lnew (t' := s.toks) (r.append r2) (by rw [List.length_append]; omega), rfl, q _ I.fresh⟩
def rRep : R2 := fun x y H Q => ∃ l k xs, x = .ref l ∧ y = .int k ∧ H l = some (.lst xs) ∧ -(2 ^ 63) ≤ k ∧ k < 2 ^ 63 ∧ xs.length * k.toNat ≤ sizeLine ∧
  ∀ p, H p = none → Q (.ref p) (upd H p (.lst (List.replicate k.toNat xs).flatten))
end

section
variable {prog : Program} {w : World} {A : Around} {E : Value → Shared → Prop} {s : Shared}
set_option maxRecDepth 100000 in
end

section
variable {X : Cx}
end
end L2

namespace L2
open PySem PySem.Spec PyProof.Rows

section
variable {κ : Type} [DecidableEq κ]
def valV (kvs : List (κ × V)) (k : κ) : Option V := (kvs.find? fun kv => decide (kv.1 = k)).map (·.2)
def putK (kvs : List (κ × V)) (k : κ) (v : V) : List (κ × V) :=
  if (kvs.any fun kv => decide (kv.1 = k)) = true then kvs.map (fun kv => if kv.1 = k then (kv.1, v) else kv) else kvs ++ [(k, v)]
def dropK (kvs : List (κ × V)) (k : κ) : List (κ × V) := kvs.filter fun kv => decide (kv.1 ≠ k)

end


abbrev KT (H : Hp) : List (List Key × V) → List (List Key × Addr × Value) → Prop := Paired fun p q => p.1 = q.1 ∧ H q.2.1 = some (.tup (p.1.map kV)) ∧ RelV p.2 q.2.2
section
variable {P : Program} {w : World} {H : Hp} {h : Heap} {a : Addr}
end

def DGet (H : Hp) (a : Addr) (y : V) (r : Option V) : Prop :=
  (∃ kvs k, Rd H a (.dK kvs) ∧ y = kV k ∧ r = valV kvs k) ∨ ∃ kvs k b, Rd H a (.dT kvs) ∧ y = .ref b ∧ H b = some (.tup (k.map kV)) ∧ r = valV kvs k
def DPut (H : Hp) (a : Addr) (y v : V) (H' : Hp) : Prop :=
  (∃ kvs k, H a = some (.dK kvs) ∧ y = kV k ∧ kvs.length < sizeLine ∧ H' = upd H a (.dK (putK kvs k v))) ∨
  ∃ kvs k b, H a = some (.dT kvs) ∧ y = .ref b ∧ H b = some (.tup (k.map kV)) ∧ kvs.length < sizeLine ∧ H' = upd H a (.dT (putK kvs k v))
section
variable {X : Cx} {pins : List (Addr × Obj)} {σ : St} {H : Hp} {s : Shared} {a : Addr} {y v : V} {u r : Value} {o : Option V} {A : Around} {E : Value → Shared → Prop}

end

section
variable {X : Cx} {pins : List (Addr × Obj)} {σ : St} {H : Hp} {s : Shared} {a : Addr} {kvs : List (Key × V)} {k : Key} {u : Value} {A : Around} {E : Value → Shared → Prop}
end


def NoSl (i : Expr) : Prop := ∀ ov iv, subscripted i false ov iv = operate [ov, iv] (getItem ov iv)
def tDGet (td ty : TE) : TE := fun σ H Q => td σ H fun x H1 => ty σ H1 fun y H2 => ∃ a v, x = .ref a ∧ DGet H2 a y (some v) ∧ Q v H2
def tDIn (ty td : TE) : TE := fun σ H Q => ty σ H fun y H1 => td σ H1 fun x H2 => ∃ a o, x = .ref a ∧ DGet H2 a y o ∧ Q (.bl o.isSome) H2
def tDNotIn (ty td : TE) : TE := fun σ H Q => ty σ H fun y H1 => td σ H1 fun x H2 => ∃ a o, x = .ref a ∧ DGet H2 a y o ∧ Q (.bl (!o.isSome)) H2
def sDPut (td ty tv : TE) : TS := fun D σ H => tv σ H fun v H1 => td σ H1 fun x H2 => ty σ H2 fun y H3 => ∃ a H4, x = .ref a ∧ DPut H3 a y v H4 ∧ D.nx σ H4
def sDAug (td ty tv : TE) (rd : V → V → Hp → VK → Prop) : TS := fun D σ H => td σ H fun x H1 => ty σ H1 fun y H2 => ∃ a v, x = .ref a ∧ DGet H2 a y (some v) ∧
  tv σ H2 fun y2 H3 => rd v y2 H3 fun z H4 => ∃ H5, DPut H4 a y z H5 ∧ D.nx σ H5
def sDDel (td ty : TE) : TS := fun D σ H => td σ H fun x H1 => ty σ H1 fun y H2 => ∃ a kvs k, x = .ref a ∧ H2 a = some (.dK kvs) ∧ y = kV k ∧ (valV kvs k).isSome = true ∧ D.nx σ (upd H2 a (.dK (dropK kvs k)))

section
variable {X : Cx} {o i e value : Expr} {pos pos' tpos : Pos} {td ty tv : TE}
end


def tDNewK : TE := fun _ H Q => ∀ p, H p = none → Q (.ref p) (upd H p (.dK []))
def tDNewT : TE := fun _ H Q => ∀ p, H p = none → Q (.ref p) (upd H p (.dT []))
section
variable {X : Cx} {pos : Pos}
end

def tPairs : List (TE × TE) → St → Hp → (List (V × V) → Hp → Prop) → Prop
  | [], _, H, Q => Q [] H
  | (tk, tv) :: r, σ, H, Q => tk σ H fun x H1 => tv σ H1 fun y H2 => tPairs r σ H2 fun ps H3 => Q ((x, y) :: ps) H3
abbrev VV : List (V × V) → List (Value × Value) → Prop := Paired fun p q => RelV p.1 q.1 ∧ RelV p.2 q.2
def PPs (X : Cx) (pos : Pos) (keys : List (Option Expr)) (values : List Expr) (trs : List (TE × TE)) : Prop :=
  ∀ (pins : List (Addr × Obj)) (s : Shared) (σ : St) (H : Hp) (Q : List (V × V) → Hp → Prop), Inv X pins σ H s → tPairs trs σ H Q →
    wpAny (model X.prog X.w) X.A (evalPairs (pairTrees keys values X.env pos)) (fun vs s' => ∃ ps H', Inv X pins σ H' s' ∧ VV ps vs ∧ Q ps H') X.xe s
def mergeK (kvs more : List (Key × V)) : List (Key × V) := more.foldl (fun acc kv => putK acc kv.1 kv.2) kvs
def tDisp (trs : List (TE × TE)) : TE := fun σ H Q => ∀ p, H p = none → tPairs trs σ (upd H p (.dK [])) fun ps H2 => H2 p = some (.dK []) ∧ ∃ kvs : List (Key × V), ps = kvs.map (fun kv => (kV kv.1, kv.2)) ∧ kvs.length ≤ 15 ∧ Q (.ref p) (upd H2 p (.dK (mergeK [] kvs)))
structure M1 (X : Cx) (o : Expr) (m : Str) (apos : Pos) (e : Expr) (cpos : Pos) : Prop where
  base : attributeBase o m X.env (eval o X.env) = eval o X.env
  few : ((backTo cpos (starEach [e] X.env)).all (fun x => !x.1) && (backToKw cpos (keywordEach [] X.env)).all (fun x => x.1.isSome)
    && decide (([e] : List Expr).length + ([] : List Keyword).length + (if ([] : List Keyword).isEmpty then 0 else 1) < 30)) = true
  line : (apos.endLine == cpos.line) = true
  trees : backTo cpos (starEach [e] X.env) = [(false, eval e X.env)]
structure M2 (X : Cx) (o : Expr) (m : Str) (apos : Pos) (e f : Expr) (cpos : Pos) : Prop where
  base : attributeBase o m X.env (eval o X.env) = eval o X.env
  few : ((backTo cpos (starEach [e, f] X.env)).all (fun x => !x.1) && (backToKw cpos (keywordEach [] X.env)).all (fun x => x.1.isSome)
    && decide (([e, f] : List Expr).length + ([] : List Keyword).length + (if ([] : List Keyword).isEmpty then 0 else 1) < 30)) = true
  line : (apos.endLine == cpos.line) = true
  trees : backTo cpos (starEach [e, f] X.env) = [(false, eval e X.env), (false, eval f X.env)]

def IsD (H : Hp) (a : Addr) : Prop := (∃ kvs, Rd H a (.dK kvs)) ∨ ∃ kvs, Rd H a (.dT kvs)
section
variable {X : Cx} {pins : List (Addr × Obj)} {σ : St} {H : Hp} {s : Shared} {a : Addr} {y d : V} {u r : Value} {o : Option V} {A : Around} {E : Value → Shared → Prop}
end

def tDGet1 (td ty : TE) : TE := fun σ H Q => td σ H fun x H1 => ∃ a, x = .ref a ∧ IsD H1 a ∧ ty σ H1 fun y H2 => ∃ o, DGet H2 a y o ∧ Q (o.getD .non) H2
def tDGet2 (td ty tx : TE) : TE := fun σ H Q => td σ H fun x H1 => ∃ a, x = .ref a ∧ IsD H1 a ∧ ty σ H1 fun y H2 => tx σ H2 fun z H3 => ∃ o, DGet H3 a y o ∧ Q (o.getD z) H3
def tDPop1 (td ty : TE) : TE := fun σ H Q => td σ H fun x H1 => ∃ a, x = .ref a ∧ IsD H1 a ∧ ty σ H1 fun y H2 => ∃ kvs k v, H2 a = some (.dK kvs) ∧ y = kV k ∧ valV kvs k = some v ∧ Q v (upd H2 a (.dK (dropK kvs k)))
def tDPop2 (td ty tx : TE) : TE := fun σ H Q => td σ H fun x H1 => ∃ a, x = .ref a ∧ IsD H1 a ∧ ty σ H1 fun y H2 => tx σ H2 fun z H3 => ∃ kvs k, H3 a = some (.dK kvs) ∧ y = kV k ∧
  (∀ v, valV kvs k = some v → Q v (upd H3 a (.dK (dropK kvs k)))) ∧ (valV kvs k = none → Q z H3)
section
variable {X : Cx} {o e f : Expr} {apos cpos : Pos} {td ty tx : TE}
end

section
variable {X : Cx} {pins : List (Addr × Obj)} {σ : St} {H : Hp} {s : Shared} {a : Addr} {kvs : List (Key × V)} {A : Around} {E : Value → Shared → Prop}
end


section
variable {X : Cx} {pins : List (Addr × Obj)} {σ : St} {H : Hp} {s : Shared} {a : Addr} {y : V} {u : Value} {A : Around} {E : Value → Shared → Prop}
end
end L2

namespace Att
open PySem PySem.W PySem.Calls PyProof.Rows

theorem ints_of_wellAll {P : Params} {h : Heap} : ∀ (ns : List Int) (vs : List Value), WellAll P h vs (ns.map WData.int) → IntsAre vs ns := by
  intro ns
  induction ns with
  | nil =>
    intro vs w
    rw [List.map_nil] at w
    cases w
    exact .nil
  | cons n ns ih =>
    intro vs w
    rw [List.map_cons] at w
    cases w with
    | cons a b =>
      cases a
      exact .cons _ _ (ih _ b)

theorem script_of {l : OpenLaw} {n : Nat} (hn : l.most = some n) {P : Params} {h : Heap} {args : List WData} {vals : List Value}
    (hpre : l.row.toRowW.claim.pre args = true) (hwl : WellAll P h vals args) :
    ∃ a vs ns, vals = [Value.ref a] ∧ args = [WData.list (ns.map WData.int)] ∧ h.get? a = some { cls := .type "list", data := .seq vs.toArray } ∧ IntsAre vs ns ∧ ns.length ≤ n := by
  have hsh : WShape.hasAll [] args [.list .int] = true := (pre_splitW hpre).1
  have hc : l.pre.holds [] { args := args } = true := (pre_splitW hpre).2
  obtain ⟨d, r, rfl, h1, h2⟩ := hasAllW_cons hsh
  obtain rfl := hasAllW_nil h2
  obtain ⟨xs, rfl, h3⟩ := hasW_list h1
  obtain ⟨ns, rfl⟩ := items_int h3
  have hlen : ns.length ≤ n := by
    unfold OpenLaw.pre at hc
    have h4 : (WTm.not (.lt (.lit (.int (n : Int))) (.len (.arg 0)))).holds [] { args := [.list (ns.map .int)] } = true := by
      have h4 := (holds_andW hc).1
      rw [hn] at h4
      exact h4
    have h5 := condW_of h4 (w_not (w_lt w_lit (w_len_list (w_arg rfl))))
    rw [List.length_map] at h5
    refine Nat.le_of_not_lt fun q => ?_
    have q' : (n : Int) < ((ns.length : Nat) : Int) := by omega
    first
      | (rw [decide_eq_true q'] at h5; exact absurd h5 (by decide))
      | (simp at h5; omega)
  cases hwl with
  | cons w1 w2 =>
    cases w2
    cases w1 with
    | list ho hall => exact ⟨_, _, ns, rfl, rfl, ho, ints_of_wellAll ns _ hall, hlen⟩

theorem post_true (l : OpenLaw) (args : List WData) : l.row.toRowW.claim.post args (.bool true) args = true :=
  postW_of (r := l.row.toRowW) (X := (true == true))
    (show WShape.has [] (.bool true) .bool = true by first | rfl | decide | simp [WShape.has, WShape.arms, WShape.armsAll])
    (show (WTm.eq .res (.lit (.bool true))).value [] { args := args, res := some (.bool true), after := args } = some (.bool (true == true)) from w_eq_bool (w_res rfl) w_lit) rfl

theorem attach_call {l : OpenLaw} {n : Nat} {q : Program} {loose : List Str} {XP : (Str → Option Value) → Heap → Prop} {YP : World → Heap → Prop} {d : DefRec}
    (hn : l.most = some n) (hdf : d.params.defaults = [])
    (call : ∀ (w : World) (s₀ s₁ : Shared) (mg mb : Str → Option Value) (fa : Addr) (o : Obj) (pm cd doc : Value) (a : Addr) (vs : List Value) (ns : List Int),
      Ground q loose [] XP w s₀ mg mb s₁.heap → YP w s₁.heap →
      s₁.heap.get? fa = some o → o.data = .func (docDef d.name d.params d.body d.scope pm cd doc) → s₁.heap.CodeRec cd d.name → mg d.name = some (.ref fa) →
      s₁.heap.get? a = some { cls := .type "list", data := .seq vs.toArray } → IntsAre vs ns → ns.length ≤ n → s₁.gens = #[] →
      codeAny (model l.prog w) callerA (.call (.ref fa) ⟨[.ref a], []⟩) (fun r s' => r = .ok (.ret (.bool true)) ∧ OldK s₁.heap s'.heap ∧ s'.os = s₁.os ∧ AllBare s'.gens) s₁) :
    WalkO q loose XP YP l.row.toRowW d [] (fun f vs => PySem.call f vs) := by
  intro w s₀ s₁ mg mb G Y fa o pm cd doc dV kV ho hd hcd hD hmg hg args vals as hpre hlay hrd hwl hlo
  obtain rfl : dV = .none := Dflts.none hD hdf
  obtain rfl : kV = .none := Dflts.noKw hD
  obtain ⟨a, vs, ns, rfl, rfl, hobj, hints, hlen⟩ := script_of hn hpre hwl
  refine enter_call (codeAny_mono (call w s₀ s₁ mg mb fa o pm cd doc a vs ns G Y ho (fd_plain hd) hcd hmg hobj hints hlen hg) fun r s' hq => ?_)
  obtain ⟨rfl, h2, h3, h4⟩ := hq
  exact ⟨.inl ⟨.bool true, .bool true, [], rfl, fun _ => rfl, .bool true, post_true l _, fun _ => ⟨List.Pairwise.nil, fun _ hm => (nomatch hm)⟩⟩, h2, h3, h4⟩

section
variable {prog : Program} {w : World} {A : Around} {E : Value → Shared → Prop} {s : Shared} {K : Frag}

def noObjs (h : Heap) : Heap := { h with objs := #[] }
def ledger (h : Heap) (L d : Addr) : List (Addr × Obj) := (List.range h.objs.size).filterMap fun a => if a = L ∨ a = d then none else (h.get? a).map fun o => (a, o)
end
end Att

namespace L2
open PySem PySem.Spec PyProof.Rows

theorem vals_ints : ∀ {vs : List Value} {ns : List Int}, IntsAre vs ns → Vals (ns.map V.int) vs
  | _, _, .nil => .nil
  | _, _, .cons n t h => .cons ⟨t, rfl⟩ (vals_ints h)

def Only (H : Hp) : Prop := ∀ b, H b = none ∨ ∃ o xs, H b = some (.frz o (.lst xs))

theorem law_call {P : Program} {w : World} {K : PySem.W.Frag} {mg mb : Str → Option Value} {CX : CXT} {k : Nat} {fa a : Addr} {fd : FuncData} {x : Str} {sp : Sp} {s₁ : Shared} {vs : List Value} {ns : List Int}
    (KX : K.In s₁.heap) (hns : s₁.heap.Ns mainGlobals mg) (hb : s₁.heap.Ns builtinsNs mb) (hbb : ∀ x : Str, x ≠ "__name__" → mb x = bootBuiltins x) (hlim : s₁.heap.NoLimit) (hg : s₁.gens = #[])
    (ha : s₁.heap.get? a = some { cls := .type "list", data := .seq vs.toArray }) (hi : IntsAre vs ns) (hl : ns.length ≤ sizeLine) (hr : Room k callerA)
    (F : ∀ base : Heap, K.In base → base.Ns mainGlobals mg → FnOk P w K mg base CX k fa fd [x] sp) (hbind : ∀ (s : Shared) (u : Value), BindsTo s fd ⟨[u], []⟩ [(x, u)])
    (hsp : ∀ H : Hp, Only H → SqL K H a (ns.map V.int) → sp [.ref a] H (fun v _ => v = .bl true) fun _ _ _ => False)
    (hCX : ∀ H e s', CX [] H s₁ (fun _ _ _ => False) e s' → False) :
    codeAny (model P w) callerA (.call (.ref fa) ⟨[.ref a], []⟩) (fun r s' => r = .ok (.ret (.bool true)) ∧ OldK s₁.heap s'.heap ∧ s'.os = s₁.os ∧ AllBare s'.gens) s₁ := by
  have rv := vals_ints hi
  have lenV := hi.length
  -- from an abstract heap in which nothing but the script may be tracked
  have core : ∀ H : Hp, Only H → SqL K H a (ns.map V.int) → HOk P w H s₁.heap → (∀ b, H b ≠ none → b = a) → (H a ≠ none → K.lookup a = none) →
      codeAny (model P w) callerA (.call (.ref fa) ⟨[.ref a], []⟩) (fun r s' => r = .ok (.ret (.bool true)) ∧ OldK s₁.heap s'.heap ∧ s'.os = s₁.os ∧ AllBare s'.gens) s₁ := by
    intro H hO hS hok hA hK
    have base_of : ∀ {b : Addr} {o : Obj}, s₁.heap.get? b = some o → H b = none → (hidT s₁.heap H).get? b = some o := fun e n => hidT_get e n
    have noA : ∀ {b : Addr} {o : Obj} {es : Array DictEntry} {ep : Nat}, s₁.heap.get? b = some o → o.data = .dict es ep → H b = none := fun {b o es ep} e d => by
      cases q : H b with
      | none => rfl
      | some u =>
        have e' : b = a := hA b (by rw [q]; simp)
        subst e'
        rw [ha] at e; cases e
        have d' : Data.seq vs.toArray _ = Data.dict es ep := d
        cases d'
    have nsK : ∀ {b : Addr} {m : Str → Option Value}, s₁.heap.Ns b m → (hidT s₁.heap H).Ns b m := fun {b m} ⟨o, es, ep, e, d, r⟩ => ⟨o, es, ep, base_of e (noA e d), d, r⟩
    have hKb : K.In (hidT s₁.heap H) := fun b o e => base_of (KX b o e) (by
      cases q : H b with
      | none => rfl
      | some u =>
        have e' : b = a := hA b (by rw [q]; simp)
        subst e'
        rw [hK (by rw [q]; simp)] at e; cases e)
    have hM : Mod K mg (hidT s₁.heap H) := ⟨hKb, nsK hns, ⟨mb, nsK hb, hbb⟩, let ⟨mc, h1, h2⟩ := hlim; ⟨mc, nsK h1, h2⟩⟩
    have e0 : Env0 P w K mg (hidT s₁.heap H) callerA [] s₁ H := ⟨rfl, hM, fun b o e => of_hidT e, Nat.le_of_eq (hidT_size _ _), trivial, fun b hb => absurd (show b ∈ ([] : List Addr) from hb) (by simp), hok, .of_eq hg⟩
    refine codeAny_mono ((F _ hKb (nsK hns)).run callerA [] s₁ H ⟨[.ref a], []⟩ [.ref a] [.ref a] _ _ hr e0 (hbind s₁ (.ref a)) (.cons rfl .nil) (hsp H hO hS)) fun r s' h => ?_
    cases r with
    | error e => exact (hCX H e s' h).elim
    | ok fl =>
      cases fl with
      | next => exact False.elim h
      | brk => exact False.elim h
      | cont => exact False.elim h
      | ret u =>
        obtain ⟨v, H', os, bare, un, hok', r', q⟩ := h
        have q' : v = .bl true := q
        subst q'
        obtain rfl : u = Value.bool true := r'
        refine ⟨rfl, OldK.of_keep fun b o e => ?_, os, bare⟩
        cases q : H b with
        | none => exact un.keep b o e q (by intro z; exact absurd (show b ∈ ([] : List Addr) from z) (by simp)) (by simp)
        | some u =>
          rcases hO b with z | ⟨ob, xs, z⟩
          · rw [q] at z; cases z
          · have z2 := un.frzs b ob _ z
            obtain ⟨e1, _⟩ := hok b _ z
            obtain ⟨e2, _⟩ := hok' b _ z2
            rw [e] at e1; cases e1
            exact e2
  cases hk : K.lookup a with
  | some o =>
    -- the script is one of the module's own objects
    have e := KX a o hk
    rw [ha] at e
    cases e
    refine core (fun _ => none) (fun _ => .inl rfl) (.inr ⟨_, vs.toArray, _, hk, rfl, rfl, rfl, by rw [List.size_toArray, lenV]; exact hl, by simpa using rv⟩) (fun b u z => by have z' : (none : Option HO) = some u := z; cases z') (fun b z => absurd rfl z) fun z => absurd rfl z
  | none =>
    refine core (fun b => if b = a then some (.frz { cls := .type "list", data := .seq vs.toArray } (.lst (ns.map V.int))) else none) (fun b => ?_) (.inl (.inr ⟨{ cls := .type "list", data := .seq vs.toArray }, if_pos rfl⟩)) (fun b u z => ?_) (fun b z => ?_) fun _ => hk
    · by_cases hb : b = a
      · exact .inr ⟨_, _, if_pos hb⟩
      · exact .inl (if_neg hb)
    · by_cases hb : b = a
      · have z' := (if_pos hb).symm.trans z
        cases z'
        subst hb
        exact ⟨ha, by rw [List.length_map]; exact hl, vs, _, rv, ha⟩
      · have z' := (if_neg hb).symm.trans z
        cases z'
    · by_cases hb : b = a
      · exact hb
      · exact absurd (if_neg hb) z
end L2

namespace L2
open PySem PySem.Spec PyProof.Rows

abbrev KOf {K : PySem.W.Frag} {h : Heap} (_ : K.In h) : PySem.W.Frag := K

theorem walk_of {l : PySem.W.OpenLaw} {n k : Nat} {q : Program} {loose : List Str} {XP : (Str → Option Value) → Heap → Prop} {YP : World → Heap → Prop} {d : DefRec} {K : Params → PySem.W.Frag} {CX : World → CXT} {sp : World → Sp} {x : Str}
    (hn : l.most = some n) (hn2 : n ≤ sizeLine) (hdf : d.params.defaults = []) (hr : Room k callerA)
    (hY : ∀ (w : World) (h : Heap), YP w h → (K w.params).In h)
    (F : ∀ (w : World) (mg : Str → Option Value) (fa : Addr) (h : Heap), (K w.params).In h → h.Ns mainGlobals mg → mg d.name = some (.ref fa) →
      ∃ fd : FuncData, (∀ (s : Shared) (u : Value), BindsTo s fd ⟨[u], []⟩ [(x, u)]) ∧
        ∀ base : Heap, (K w.params).In base → base.Ns mainGlobals mg → FnOk l.prog w (K w.params) mg base (CX w) k fa fd [x] (sp w))
    (hsp : ∀ (w : World) (H : Hp) (a : Addr) (ns : List Int), ns.length ≤ n → Only H → SqL (K w.params) H a (ns.map V.int) → sp w [.ref a] H (fun v _ => v = .bl true) fun _ _ _ => False)
    (hCX : ∀ (w : World) (H : Hp) (s : Shared) (e : Value) (s' : Shared), CX w [] H s (fun _ _ _ => False) e s' → False) :
    PySem.W.WalkO q loose XP YP l.row.toRowW d [] (fun f vs => PySem.call f vs) := by
  refine Att.attach_call hn hdf fun w s₀ s₁ mg mb fa o pm cd doc a vs ns G Y ho hd hcd hmg hobj hints hlen hg => ?_
  have KX := hY w _ Y
  obtain ⟨fd, hb, hF⟩ := F w mg fa _ KX G.T.g hmg
  exact law_call KX G.T.g G.T.b G.T.builtins G.T.nolimit hg hobj hints (Nat.le_trans hlen hn2) hr hF hb (fun H hO hS => hsp w H a ns hlen hO hS) fun H e s' => hCX w H s₁ e s'
theorem walk_ofK {l : PySem.W.OpenLaw} {n k : Nat} {q : Program} {loose : List Str} {XP : (Str → Option Value) → Heap → Prop} {YP : World → Heap → Prop} {d : DefRec} {K : Params → PySem.W.Frag} {CX : CXT} {sp : PySem.W.Frag → Sp} {x : Str}
    (hn : l.most = some n) (hn2 : n ≤ sizeLine) (hdf : d.params.defaults = []) (hr : Room k callerA)
    (hY : ∀ (w : World) (h : Heap), YP w h → (K w.params).In h)
    (F : ∀ (w : World) (mg : Str → Option Value) (fa : Addr) (h : Heap), (K w.params).In h → h.Ns mainGlobals mg → mg d.name = some (.ref fa) →
      ∃ fd : FuncData, (∀ (s : Shared) (u : Value), BindsTo s fd ⟨[u], []⟩ [(x, u)]) ∧
        ∀ base : Heap, (K w.params).In base → base.Ns mainGlobals mg → FnOk l.prog w (K w.params) mg base CX k fa fd [x] (sp (K w.params)))
    (hsp : ∀ (K : PySem.W.Frag) (H : Hp) (a : Addr) (ns : List Int), ns.length ≤ n → Only H → SqL K H a (ns.map V.int) → sp K [.ref a] H (fun v _ => v = .bl true) fun _ _ _ => False)
    (hCX : ∀ (H : Hp) (s : Shared) (e : Value) (s' : Shared), CX [] H s (fun _ _ _ => False) e s' → False) :
    PySem.W.WalkO q loose XP YP l.row.toRowW d [] (fun f vs => PySem.call f vs) :=
  walk_of (K := K) (CX := fun _ => CX) (sp := fun w => sp (K w.params)) hn hn2 hdf hr hY F (fun w H a ns h1 h2 h3 => hsp (K w.params) H a ns h1 h2 h3) fun _ H s e s' => hCX H s e s'
end L2

/- THE LAST THEOREM (shape; LID, My.* are yours):
   My.Adr: a structure of the addresses that your layer names (classes, functions); My.Txt K t: a structure (Prop) of the equations over K;
   My.txt_mk : {K} {implicit addresses ..} (e1 : nsIn K mainGlobals "law" = some (some (.ref f))) (e2 : K.lookup f = some ⟨oc, od, .func (fnOf "law" "law" params body scope dV kV doc pm an cdv ct), sl⟩) (e3 : codeIn K cdv "law" = true) .. : ∃ t, My.Txt K t

set_option maxRecDepth 100000 in
set_option maxHeartbeats 0 in
theorem PySem.Challenge.cw_LID_holds : PySem.Challenge.rw_LID.Holds := by
  w_on; o_law; k_head; (case hw => w_witness2)
  k_fill
  refine L2.walk_of (l := PySem.Challenge.rw_LID) (n := 63) (k := 40) (x := "script") (CX := fun w => ..) (sp := fun _ => My.sp_law) rfl (by decide) rfl ⟨rfl, by decide, by decide⟩ (fun w h Y => PySem.W.kIn_of Y) ?F ?S ?C
  case F =>
    intro w mg fa h KX G hmg
    have T : ∃ t, My.Txt (L2.KOf KX) t := by
      dsimp only [L2.KOf]                          -- K must stand as «<heap const> w.params» for k_is
      refine' My.txt_mk ?e1 ?e2 ?e3 ..
      (case e1 => PySem.W.k_is)                    -- in the order: a name -> its address -> its object -> its parts
      (case e2 => PySem.W.k_is)
      ..
    obtain ⟨t, T⟩ := T
    have e0 := hmg.symm.trans (PySem.W.mg_of KX G T.law)
    cases e0                                       -- fa is the law's own address
    exact ⟨_, fun s u => .of_eq rfl, fun base kb nb => My.law_fn T kb nb⟩     -- if «.of_eq rfl» comes too early: refine' ⟨_, ?b, fun base kb nb => My.law_fn T kb nb⟩; exact fun s u => .of_eq rfl
  case S => exact fun w H a ns hl hO hS => ..
  case C => exact ..
(the tactic k_is has no namespace: write k_is) -/

namespace L2
open PySem PySem.Spec PyProof.Rows

def inClass (s : Stmt) (j : Nat) : Stmt := match s with
  | .ClassDef _ _ _ body _ _ _ _ _ _ _ => body.getD j (.Pass ⟨0, 0, 0, 0⟩)
  | _ => .Pass ⟨0, 0, 0, 0⟩
def defArgs (s : Stmt) : Arguments := match s with
  | .FunctionDef _ a _ _ _ _ _ _ _ _ => a
  | _ => { posonlyargs := [], args := [], vararg := none, kwonlyargs := [], kw_defaults := [], kwarg := none, defaults := [] }
def defBody (s : Stmt) : List Stmt := match s with
  | .FunctionDef _ _ b _ _ _ _ _ _ _ => b
  | _ => []
def defScope (s : Stmt) : Scope := match s with
  | .FunctionDef _ _ _ _ _ _ sc _ _ _ => sc
  | _ => { kind := .function, names := [], isGenerator := false, isCoroutine := false }

abbrev CX0 : CXT := fun _ _ _ _ _ _ => False
abbrev E0 : XK := fun _ _ _ => False
theorem pass0 {X : Cx} : Passes CX0 X E0 := fun _ _ _ _ _ _ _ h => h.elim

structure Fun (K : PySem.W.Frag) (x qual : Str) (st : Stmt) (f : Addr) (fd : FuncData) : Prop where
  ex : ∃ (oc : Value) (od : Option Addr) (kV doc pm : Value) (an : Option Addr) (cdv ct : Value) (osl : Array (Option Value)),
    fd = PySem.W.fnOf x qual (defArgs st) (defBody st) (defScope st) .none kV doc pm an cdv ct ∧ K.lookup f = some ⟨oc, od, .func fd, osl⟩ ∧ PySem.W.codeIn K cdv qual = true
  kp : PySem.W.keepIn K (.ref f) = true
section
variable {P : Program} {w : World} {K : PySem.W.Frag} {mg : Str → Option Value} {base : Heap}
end
section
variable {X : Cx}
theorem pv (i : Nat) {x : Str} {pos : Pos} (hN : X.N[i]? = some x := by rfl) (hv : Vis X.env.scope x := by first | exact Or.inl rfl | exact Or.inr (Or.inl rfl) | exact Or.inr (Or.inr rfl)) (hd : (x == ("__debug__" : Str)) = false := by decide)
    (hcd : (x == ("__classdict__" : Str)) = false := by decide) : PE X (.Name x pos) (tVar i) := pe_var hN hv hd hcd
end

theorem iteF {A B : Prop} (h : B) : if false = true then A else B := by
  rw [if_neg Bool.false_ne_true]
  exact h
theorem iteT {A B : Prop} (h : A) : if true = true then A else B := by
  rw [if_pos rfl]
  exact h
def Same (H H' : Hp) : Prop := ∀ b o, H b = some o → H' b = some o
theorem Same.refl (H : Hp) : Same H H := fun _ _ h => h
theorem Same.trans {H H1 H2 : Hp} (a : Same H H1) (b : Same H1 H2) : Same H H2 := fun c o h => b c o (a c o h)
theorem Same.seq {K : PySem.W.Frag} {H H' : Hp} {a : Addr} {xs : List V} (e : Same H H') (h : SqL K H a xs) : SqL K H' a xs := by
  rcases h with (h | ⟨o, h⟩) | h
  · exact .inl (.inl (e _ _ h))
  · exact .inl (.inr ⟨o, e _ _ h⟩)
  · exact .inr h

section
variable {κ : Type} [DecidableEq κ]
end
end L2

namespace L2
open PySem PySem.Spec PyProof.Rows
section
variable {X : Cx}
def CMulB (i j : Int) : Prop := i.natAbs < 2 ^ 2000 ∧ j.natAbs < 2 ^ 2000
theorem CMulB.ok {i j : Int} (h : CMulB i j) : IntMulOk i j := by
  have h1 : Builtin.Int.intBits i ≤ 2000 := PyProof.Rows.intBits_le h.1
  have h2 : Builtin.Int.intBits j ≤ 2000 := PyProof.Rows.intBits_le h.2
  have h3 : Builtin.Int.intTooBig ((Builtin.Int.intBits i + Builtin.Int.intBits j : Nat) : Int) = false := by
    unfold Builtin.Int.intTooBig
    have : (bitsLine : Nat) = 134217728 := rfl
    refine decide_eq_false ?_
    omega
  unfold IntMulOk
  have h4 : Builtin.Int.intTooBig (Builtin.Int.intBits i + Builtin.Int.intBits j) = false := by
    have e : ((Builtin.Int.intBits i : Int) + (Builtin.Int.intBits j : Int)) = ((Builtin.Int.intBits i + Builtin.Int.intBits j : Nat) : Int) := by omega
    rw [e]; exact h3
  rw [h4]
  simp
theorem op_mulB : OpR X (binaryOp .Mult) (rI CMulB fun i j => .int (i * j)) := opI fun _ _ _ _ _ _ _ hc q => mul_int q hc.ok
def CDivB (_ j : Int) : Prop := 0 < j ∧ j.natAbs < 2 ^ 2000
theorem op_fdivB : OpR X (binaryOp .FloorDiv) (rI CDivB fun i j => .int (i / j)) := opI fun i j _ _ _ _ _ hc q => by
  have e : i.fdiv j = i / j := Int.fdiv_eq_ediv_of_nonneg _ (Int.le_of_lt hc.1)
  have hl : j.natAbs.log2 < 9000 := by
    have h0 : j.natAbs ≠ 0 := by have := hc.1; omega
    have h2 : j.natAbs.log2 < 2000 := (Nat.log2_lt h0).mpr hc.2
    omega
  refine floordiv_int (by have := hc.1; omega) ?_ (.inl (PyProof.noPylong_of_log2 hl))
  rw [e]; exact q
inductive ClsV : V → Value → Prop where
  | ty (n : String) : ClsV (.ty n) (.type n)
  | ref (C : Addr) : ClsV (.ref C) (.ref C)
def rIsi (K : PySem.W.Frag) : List V → Hp → VK → Prop := fun xs H Q => ∃ x c cv t b, xs = [x, c] ∧ ClsV c cv ∧ TyOf K H x t ∧ PySem.W.kitOne K t cv = some b ∧ Q (.bl b) H
theorem call_isi : CallR X (.builtin "isinstance") (rIsi X.K) := by
  intro pins s σ H xs us Q I r h
  obtain ⟨x, c, cv, t, b, rfl, hc, ty, e, q⟩ := h
  obtain ⟨u, w', rfl, r1, r2⟩ := vals2 r
  have ew : w' = cv := by cases hc <;> exact r2
  subst ew
  exact isinst_ok I r1 ty e fun tk => ⟨.bl b, H, I.tok tk, rfl, q⟩
structure BaseM (K : PySem.W.Frag) (C : Addr) (m : Str) (f : Addr) : Prop where
  ga : PySem.W.specialIn K (.ref C) "__getattribute__" = some (some (.builtin "type.__getattribute__"))
  rd : PySem.W.readsIn K C (.type "type") = true
  fd : PySem.W.findCls K (.ref C) (.type "type") m = some (.val (.ref f))
  kp : PySem.W.keepIn K (.ref f) = true
theorem pe_base {CX : CXT} {k : Nat} {f C : Addr} {fd : FuncData} {ps : List Str} {sp : Sp} {dvs : List V} {ds : List Value} {E : XK} {x m : Str} {p pos apos : Pos} {e : Expr} {es : List Expr} {t : TA} {pl : Sem Bool}
    (hg : Gl X x) (hm : X.mg x = some (.ref C)) (B : BaseM X.K C m f) (F : FnOk X.prog X.w X.K X.mg X.base CX k f fd ps sp) (hr : Room k X.A) (hb : Binds X.K fd ps ds) (hd : Vals dvs ds) (hx : Passes CX X E) (ha : PA X (e :: es) t)
    (hdb : (x == ("__debug__" : Str)) = false := by decide)
    (hst : starEach (e :: es) X.env = (false, eval e X.env) :: starEach es X.env := by rfl) (hpl : (backTo pos (starEach es X.env)).any (·.1) = false := by rfl)
    (ht : eval (.Call (.Attribute (.Name x p) m apos) (e :: es) [] pos) X.env = (do
      let ov ← eval (.Name x p) X.env
      standAt apos.atName
      let (f, first) ← holding [ov] (getMethod ov m pl)
      callWith pos f first (backTo pos (starEach (e :: es) X.env)) (backToKw pos (keywordEach [] X.env))) := by rfl) :
    PE X (.Call (.Attribute (.Name x p) m apos) (e :: es) [] pos) (tCall sp dvs E t) := by
  intro pins s σ H Q I h
  refine PySem.W.methodCall_KW (pl := pl) (ld_glob I hg hm ?_ hdb) ht
  refine PySem.W.method_cls I.kIn B.ga ?_
  refine PySem.W.cls_value I.kIn B.rd B.fd rfl ?_
  have I' : Inv X pins σ H { s with toks := s.toks + 1 } := I.tok _
  refine PySem.W.callWith_K (first := []) (h₀ := X.base) I.ok.mod.kin B.kp (thn (ha pos pins _ σ H _ I' h) fun us s2 ⟨vs, H2, I2, r, q2⟩ => ⟨I2.kIn, ?_⟩) hst hpl
  exact run_fn F hr hb hd hx I2 r q2
end
end L2

namespace L2
open PySem PySem.Spec PyProof.Rows
mutual
inductive HasD (K : PySem.W.Frag) (H : Hp) : V → PyData → Prop where
  | non : HasD K H .non .none
  | bl (b : Bool) : HasD K H (.bl b) (.bool b)
  | int (i : Int) : HasD K H (.int i) (.int i)
  | str (x : Str) : HasD K H (.str x) (.str x)
  | tup {a : Addr} {xs : List V} {ds : List PyData} (h : SqT K H a xs) (r : HasDs K H xs ds) : HasD K H (.ref a) (.tuple ds)
  | lst {a : Addr} {xs : List V} {ds : List PyData} (h : SqL K H a xs) (r : HasDs K H xs ds) : HasD K H (.ref a) (.list ds)
inductive HasDs (K : PySem.W.Frag) (H : Hp) : List V → List PyData → Prop where
  | nil : HasDs K H [] []
  | cons {x : V} {d : PyData} {xs : List V} {ds : List PyData} (h : HasD K H x d) (r : HasDs K H xs ds) : HasDs K H (x :: xs) (d :: ds)
end
theorem SqT.keeps {K : PySem.W.Frag} {H H' : Hp} {a : Addr} {xs : List V} (e : Same H H') (h : SqT K H a xs) : SqT K H' a xs := by
  rcases h with (h | ⟨o, h⟩) | h
  · exact .inl (.inl (e _ _ h))
  · exact .inl (.inr ⟨o, e _ _ h⟩)
  · exact .inr h
mutual
theorem HasD.keeps {K : PySem.W.Frag} {H H' : Hp} (e : Same H H') : ∀ {v : V} {d : PyData}, HasD K H v d → HasD K H' v d
  | _, _, .non => .non
  | _, _, .bl b => .bl b
  | _, _, .int i => .int i
  | _, _, .str x => .str x
  | _, _, .tup h r => .tup (SqT.keeps e h) (HasDs.keeps e r)
  | _, _, .lst h r => .lst (Same.seq e h) (HasDs.keeps e r)
theorem HasDs.keeps {K : PySem.W.Frag} {H H' : Hp} (e : Same H H') : ∀ {vs : List V} {ds : List PyData}, HasDs K H vs ds → HasDs K H' vs ds
  | _, _, .nil => .nil
  | _, _, .cons h r => .cons (HasD.keeps e h) (HasDs.keeps e r)
end
section
variable {X : Cx} {pins : List (Addr × Obj)} {σ : St} {H : Hp} {s : Shared}
mutual
theorem HasD.reads (I : Inv X pins σ H s) : ∀ {v : V} {d : PyData} {u : Value}, HasD X.K H v d → RelV v u → ∃ as, Reads s.heap u d as
  | _, _, _, .non, r => by cases r; exact ⟨_, .none⟩
  | _, _, _, .bl b, r => by cases r; exact ⟨_, .bool b⟩
  | _, _, _, .int i, r => by obtain ⟨t, rfl⟩ := r; exact ⟨_, .int i t⟩
  | _, _, _, .str x, r => by obtain ⟨t, rfl⟩ := r; exact ⟨_, .str x t⟩
  | _, _, _, .tup h q, r => by
    cases r
    obtain ⟨its, rv, ⟨o, h1, h2, n, h3⟩, _⟩ := I.tuple h
    obtain ⟨as, ra⟩ := HasDs.reads I q rv
    exact ⟨_, .tuple h1 h2 h3 (by simpa using ra)⟩
  | _, _, _, .lst h q, r => by
    cases r
    obtain ⟨its, rv, ⟨o, n, h1, h2, _, h3⟩, _⟩ := I.list h
    obtain ⟨as, ra⟩ := HasDs.reads I q rv
    exact ⟨_, .list h1 h2 h3 (by simpa using ra)⟩
theorem HasDs.reads (I : Inv X pins σ H s) : ∀ {vs : List V} {ds : List PyData} {us : List Value}, HasDs X.K H vs ds → Vals vs us → ∃ as, ReadsAll s.heap us ds as
  | _, _, _, .nil, r => by cases r; exact ⟨_, .nil⟩
  | _, _, _, .cons h q, r => by
    cases r with
    | cons r1 r2 =>
      obtain ⟨as, ra⟩ := HasD.reads I h r1
      obtain ⟨bs, rb⟩ := HasDs.reads I q r2
      exact ⟨_, .cons ra rb⟩
end
end
section
variable {X : Cx}
def rEqD (K : PySem.W.Frag) (f : Bool → Bool) : R2 := fun x y H Q => ∃ d e, HasD K H x d ∧ HasD K H y e ∧ d.canLay0 = true ∧ e.canLay0 = true ∧ d.depth ≤ 8 ∧ Q (.bl (f (PyData.eqv d e))) H
theorem op_eqD (hu : X.A.units + 8 < cLine) : OpR X (compareOp .Eq) (rEqD X.K id) := by
  intro pins s σ H x y v u Q I rx ry h
  obtain ⟨d, e, hd, he, c1, c2, hn, q⟩ := h
  obtain ⟨as, ra⟩ := hd.reads I rx
  obtain ⟨bs, rb⟩ := he.reads I ry
  exact SeqAt.compareEq_reads ra rb c1 c2 (by have := Nat.min_le_left d.depth e.depth; omega) ⟨.bl _, H, I, rfl, q⟩
end
end L2

namespace L2
open PySem PySem.Spec PyProof.Rows
structure Cal (P : Program) (w : World) (K : PySem.W.Frag) (mg : Str → Option Value) (base : Heap) (k : Nat) (f : Addr) (ps : List Str) (dvs : List V) (sp : Sp) : Prop where
  ex : ∃ (fd : FuncData) (ds : List Value), FnOk P w K mg base CX0 k f fd ps sp ∧ Binds K fd ps ds ∧ Vals dvs ds
section
variable {X : Cx} {k : Nat} {f C : Addr} {ps : List Str} {sp : Sp} {dvs : List V} {x m : Str} {p pos apos : Pos} {e o : Expr} {es : List Expr} {ta : TE} {t : TA}
theorem pc_call (c : Cal X.prog X.w X.K X.mg X.base k f ps dvs sp) (hr : Room k X.A) (hg : Gl X x) (hm : X.mg x = some (.ref f)) (hk : PySem.W.keepIn X.K (.ref f) = true)
    (ha : PA X (e :: es) t) (hdb : (x == ("__debug__" : Str)) = false := by decide) (he : starEach (e :: es) X.env = (false, eval e X.env) :: starEach es X.env := by rfl) (hpl : (backTo pos (starEach es X.env)).any (·.1) = false := by rfl) :
    PE X (.Call (.Name x p) (e :: es) [] pos) (tCall sp dvs E0 t) := by
  obtain ⟨fd, ds, F, hb, hd⟩ := c.ex
  exact pe_call F hr hg hm hk hb hd pass0 ha hdb he hpl
theorem pc_meth {pl : Sem Bool} (he : PE X o ta) (c : Cls X.K C) (hm : Meth X.K C m f) (F : Cal X.prog X.w X.K X.mg X.base k f ps dvs sp) (hr : Room k X.A) (ha : PA X (e :: es) t)
    (hst : starEach (e :: es) X.env = (false, eval e X.env) :: starEach es X.env := by rfl) (hpl : (backTo pos (starEach es X.env)).any (·.1) = false := by rfl)
    (ht : eval (.Call (.Attribute o m apos) (e :: es) [] pos) X.env = (do
      let ov ← eval o X.env
      standAt apos.atName
      let (f, first) ← holding [ov] (getMethod ov m pl)
      callWith pos f first (backTo pos (starEach (e :: es) X.env)) (backToKw pos (keywordEach [] X.env))) := by rfl) :
    PE X (.Call (.Attribute o m apos) (e :: es) [] pos) (tMeth C m sp dvs E0 ta t) := by
  obtain ⟨fd, ds, F, hb, hd⟩ := F.ex
  exact pe_meth he c hm F hr hb hd pass0 ha hst hpl ht
theorem pc_meth0 {pl : Sem Bool} (he : PE X o ta) (c : Cls X.K C) (hm : Meth X.K C m f) (F : Cal X.prog X.w X.K X.mg X.base k f ps dvs sp) (hr : Room k X.A)
    (ht : eval (.Call (.Attribute o m apos) [] [] pos) X.env = (do
      let ov ← eval o X.env
      standAt apos.atName
      let (f, first) ← holding [ov] (getMethod ov m pl)
      callWith pos f first (backTo pos (starEach [] X.env)) (backToKw pos (keywordEach [] X.env))) := by rfl) :
    PE X (.Call (.Attribute o m apos) [] [] pos) (tMeth C m sp dvs E0 ta tNil) := by
  obtain ⟨fd, ds, F, hb, hd⟩ := F.ex
  exact pe_meth0 he c hm F hr hb hd pass0 ht
theorem pc_make (M : Mk X.K C f) (F : Cal X.prog X.w X.K X.mg X.base k f ps dvs sp) (hr : Room (k + 1) X.A) (hg : Gl X x) (hm : X.mg x = some (.ref C))
    (ha : PA X (e :: es) t) (hdb : (x == ("__debug__" : Str)) = false := by decide) (he : starEach (e :: es) X.env = (false, eval e X.env) :: starEach es X.env := by rfl) (hpl : (backTo pos (starEach es X.env)).any (·.1) = false := by rfl) :
    PE X (.Call (.Name x p) (e :: es) [] pos) (tMake C sp dvs E0 t) := by
  obtain ⟨fd, ds, F, hb, hd⟩ := F.ex
  exact pe_make M F hr hg hm hb hd pass0 ha hdb he hpl
theorem pc_base {pl : Sem Bool} (hg : Gl X x) (hm : X.mg x = some (.ref C)) (B : BaseM X.K C m f) (F : Cal X.prog X.w X.K X.mg X.base k f ps dvs sp) (hr : Room k X.A) (ha : PA X (e :: es) t)
    (hdb : (x == ("__debug__" : Str)) = false := by decide)
    (hst : starEach (e :: es) X.env = (false, eval e X.env) :: starEach es X.env := by rfl) (hpl : (backTo pos (starEach es X.env)).any (·.1) = false := by rfl)
    (ht : eval (.Call (.Attribute (.Name x p) m apos) (e :: es) [] pos) X.env = (do
      let ov ← eval (.Name x p) X.env
      standAt apos.atName
      let (f, first) ← holding [ov] (getMethod ov m pl)
      callWith pos f first (backTo pos (starEach (e :: es) X.env)) (backToKw pos (keywordEach [] X.env))) := by rfl) :
    PE X (.Call (.Attribute (.Name x p) m apos) (e :: es) [] pos) (tCall sp dvs E0 t) := by
  obtain ⟨fd, ds, F, hb, hd⟩ := F.ex
  exact pe_base hg hm B F hr hb hd pass0 ha hdb hst hpl ht
end
structure FunD (K : PySem.W.Frag) (x qual : Str) (st : Stmt) (f : Addr) (dV : Value) (fd : FuncData) : Prop where
  ex : ∃ (oc : Value) (od : Option Addr) (kV doc pm : Value) (an : Option Addr) (cdv ct : Value) (osl : Array (Option Value)),
    fd = PySem.W.fnOf x qual (defArgs st) (defBody st) (defScope st) dV kV doc pm an cdv ct ∧ K.lookup f = some ⟨oc, od, .func fd, osl⟩ ∧ PySem.W.codeIn K cdv qual = true
theorem funD_mk {K : PySem.W.Frag} {x qual : Str} {st : Stmt} {f : Addr} {oc : Value} {od an : Option Addr} {osl : Array (Option Value)} {dV kV doc pm cdv ct : Value} (l : K.lookup f = some ⟨oc, od, .func (PySem.W.fnOf x qual (defArgs st) (defBody st) (defScope st) dV kV doc pm an cdv ct), osl⟩)
    (c : PySem.W.codeIn K cdv qual = true) : FunD K x qual st f dV (PySem.W.fnOf x qual (defArgs st) (defBody st) (defScope st) dV kV doc pm an cdv ct) := ⟨⟨oc, od, kV, doc, pm, an, cdv, ct, osl, rfl, l, c⟩⟩
section
variable {P : Program} {w : World} {K : PySem.W.Frag} {mg : Str → Option Value} {base : Heap}
theorem FunD.ok {x qual : Str} {st : Stmt} {f : Addr} {dV : Value} {fd : FuncData} {N ps : List Str} {k : Nat} {sp : Sp} (F : FunD K x qual st f dV fd) (S : FnScope N ps (defScope st)) (len : ∀ vs H Q E, sp vs H Q E → vs.length = ps.length)
    (hbody : ∀ (cdv : Value) (A : Around) (outer : List Env) (s : Shared) (H : Hp) (vs : List V) (Q : VK) (E : XK), Room k (A.deeper (envOfC qual (defScope st) s.heap.objs.size f cdv)) → sp vs H Q E →
      ∃ t, PSs (cxOf CX0 P w K mg base N qual (defScope st) f cdv A outer s H E).nox (defBody st) t ∧ t { nx := fun _ H' => Q .non H', rt := Q } (start N vs) H) : FnOk P w K mg base CX0 (k + 1) f fd ps sp := by
  obtain ⟨oc, od, kV, doc, pm, an, cdv, ct, osl, rfl, lk, hcd⟩ := F.ex
  refine fn_of lk hcd S len fun A outer s H vs Q E hr hsp => ?_
  obtain ⟨t, h, q⟩ := hbody cdv A outer s H vs Q E hr hsp
  exact ⟨t, h.nox, q⟩
theorem FunD.binds {x qual : Str} {st : Stmt} {f : Addr} {dV : Value} {fd : FuncData} {ps : List Str} {ds : List Value} (F : FunD K x qual st f dV fd)
    (h : ∀ (kV doc pm : Value) (an : Option Addr) (cdv ct : Value), Binds K (PySem.W.fnOf x qual (defArgs st) (defBody st) (defScope st) dV kV doc pm an cdv ct) ps ds) : Binds K fd ps ds := by
  obtain ⟨oc, od, kV, doc, pm, an, cdv, ct, osl, rfl, lk, hcd⟩ := F.ex
  exact h kV doc pm an cdv ct
end
end L2

namespace L2
open PySem PySem.Spec PyProof.Rows
structure DefT (K : PySem.W.Frag) (T : Addr) (items : Array Value) : Prop where
  ex : ∃ (o : Obj) (n : Nat), K.lookup T = some o ∧ o.data = .seq items n
structure TyCls (K : PySem.W.Frag) (C : Addr) : Prop where
  ha : PySem.W.findIn K (.ref C) "__class__" = some (some (.builtin "object.__class__"))
  hn : PySem.W.specialIn K (.builtin "object.__class__") "__get__" = some (some (.builtin "getset_descriptor.__get__"))
  ht : PySem.W.takesIn K (.builtin "object.__class__") = some true
  hm : PySem.W.mroIn K C (.type "object") = some true
section
variable {σ : St} {H : Hp} {Q : VK} {D : Ends} {K : PySem.W.Frag}
theorem r_next (h : D.nx σ H) : tNext D σ H := h
theorem r_ret {te : TE} (h : te σ H D.rt) : tRet te D σ H := h
theorem r_drop {te : TE} (h : te σ H fun _ H1 => D.nx σ H1) : tDrop te D σ H := h
theorem r_ifS {c : TT} {t u : TS} (h : c σ H fun b H1 => if b = true then t D σ H1 else u D σ H1) : tIfS c t u D σ H := h
theorem r_asg {te : TE} {i : Nat} (h : te σ H fun x H1 => D.nx (σ.set i (some x)) H1) : tAsg te (gName i) D σ H := h
theorem r_var {i : Nat} {v : V} (e : σ[i]? = some (some v)) (h : Q v H) : tVar i σ H Q := ⟨v, e, h⟩
theorem r_c {v : V} (h : Q v H) : tC v σ H Q := h
theorem r_op {r : R2} {ta tb : TE} (h : ta σ H fun x H1 => tb σ H1 fun y H2 => r x y H2 Q) : tOp r ta tb σ H Q := h
theorem r_i0 {g : Int → Int → V} {i j : Int} (h : Q (g i j) H) : rI0 g (.int i) (.int j) H Q := ⟨i, j, rfl, rfl, h⟩
theorem r_i {C : Int → Int → Prop} {g : Int → Int → V} {i j : Int} (c : C i j) (h : Q (g i j) H) : rI C g (.int i) (.int j) H Q := ⟨i, j, rfl, rfl, c, h⟩
theorem r_test {t : TE} {Q : Bool → Hp → Prop} (h : t σ H fun x H' => ∃ k, x = .bl k ∧ Q k H') : tTest t σ H Q := h
theorem r_and {t u : TT} {Q : Bool → Hp → Prop} (h : t σ H fun c H1 => if c = true then u σ H1 Q else Q false H1) : tAnd t u σ H Q := h
theorem r_or {t u : TT} {Q : Bool → Hp → Prop} (h : t σ H fun c H1 => if c = true then Q true H1 else u σ H1 Q) : tOr t u σ H Q := h
theorem r_not {t : TT} {Q : Bool → Hp → Prop} (h : t σ H fun c H1 => Q (!c) H1) : tNot t σ H Q := h
theorem r_andV {ta tb : TE} (h : ta σ H fun x H1 => ∃ c, x = .bl c ∧ if c = true then tb σ H1 Q else Q (.bl false) H1) : tAndV ta tb σ H Q := h
theorem r_notV {ta : TE} (h : ta σ H fun x H1 => ∃ c, x = .bl c ∧ Q (.bl (!c)) H1) : tNotV ta σ H Q := h
theorem r_ifE {t : TT} {ta tb : TE} (h : t σ H fun c H1 => if c = true then ta σ H1 Q else tb σ H1 Q) : tIf t ta tb σ H Q := h
theorem r_bl {b : Bool} {R : Bool → Prop} (h : R b) : ∃ k, V.bl b = .bl k ∧ R k := ⟨b, rfl, h⟩
theorem r_nil {Q : List V → Hp → Prop} (h : Q [] H) : tNil σ H Q := h
theorem r_cons {ta : TE} {tr : TA} {Q : List V → Hp → Prop} (h : ta σ H fun x H1 => tr σ H1 fun xs H2 => Q (x :: xs) H2) : tCons ta tr σ H Q := h
theorem r_cb {r : List V → Hp → VK → Prop} {t : TA} (h : t σ H fun vs H1 => r vs H1 Q) : tCB r t σ H Q := h
theorem r_fld {ta : TE} {f : Str} (h : ta σ H fun x H1 => ∃ a C dx fs v, x = .ref a ∧ H1 a = some (.ins C dx fs) ∧ Cls K C ∧ NoAttr K C f ∧ fs.lookup f = some v ∧ Q v H1) : tFld K ta f σ H Q := h
theorem if_true' {A B : Prop} (h : A) : if true = true then A else B := by rw [if_pos rfl]; exact h
theorem if_false' {A B : Prop} (h : B) : if false = true then A else B := by rw [if_neg Bool.false_ne_true]; exact h
end
end L2

namespace L2
open PySem PySem.Spec PyProof.Rows
section
variable {X : Cx} {e : Expr} {es : List Expr}
theorem PE.or {t u : TE} (h1 : PE X e t) (h2 : PE X e u) : PE X e (fun σ H Q => t σ H Q ∨ u σ H Q) := fun pins s σ H Q I h => h.elim (h1 pins s σ H Q I) (h2 pins s σ H Q I)
theorem PE.weak {t u : TE} (h1 : PE X e t) (h : ∀ σ H Q, u σ H Q → t σ H Q) : PE X e u := fun pins s σ H Q I q => h1 pins s σ H Q I (h σ H Q q)
def mE (t : TE) : TE := fun σ H Q => ∃ Q' : VK, t σ H Q' ∧ ∀ v H', Q' v H' → Q v H'
def mA (t : TA) : TA := fun σ H Q => ∃ Q' : List V → Hp → Prop, t σ H Q' ∧ ∀ v H', Q' v H' → Q v H'
theorem PA.m {t : TA} (h : PA X es t) : PA X es (mA t) := fun pos pins s σ H Q I ⟨Q', q, m⟩ => thn (h pos pins s σ H Q' I q) fun _ _ ⟨v, H', I', r, z⟩ => ⟨v, H', I', r, m v H' z⟩
end
def keyD : Key → PyData
  | .inl i => .int i
  | .inr x => .str x
mutual
inductive Dv (H : Hp) : V → PyData → Prop where
  | non : Dv H .non .none
  | bl (b : Bool) : Dv H (.bl b) (.bool b)
  | int (i : Int) : Dv H (.int i) (.int i)
  | str (x : Str) : Dv H (.str x) (.str x)
  | tup {a : Addr} {xs : List V} {ds : List PyData} (h : H a = some (.tup xs)) (r : Dvs H xs ds) : Dv H (.ref a) (.tuple ds)
  | lst {a : Addr} {xs : List V} {ds : List PyData} (h : Rd H a (.lst xs)) (r : Dvs H xs ds) : Dv H (.ref a) (.list ds)
  | dct {a : Addr} {kvs : List (Key × V)} {ds : List (PyData × PyData)} (h : H a = some (.dK kvs)) (r : Dks H kvs ds) : Dv H (.ref a) (.dict ds)
inductive Dks (H : Hp) : List (Key × V) → List (PyData × PyData) → Prop where
  | nil : Dks H [] []
  | cons {k : Key} {x : V} {d : PyData} {xs : List (Key × V)} {ds : List (PyData × PyData)} (h : Dv H x d) (r : Dks H xs ds) : Dks H ((k, x) :: xs) ((keyD k, d) :: ds)
inductive Dvs (H : Hp) : List V → List PyData → Prop where
  | nil : Dvs H [] []
  | cons {x : V} {d : PyData} {xs : List V} {ds : List PyData} (h : Dv H x d) (r : Dvs H xs ds) : Dvs H (x :: xs) (d :: ds)
end
mutual
theorem Dv.has {K : PySem.W.Frag} {H : Hp} : ∀ {v : V} {d : PyData}, Dv H v d → d.canLay0 = true → HasD K H v d
  | _, _, .non, _ => .non
  | _, _, .bl b, _ => .bl b
  | _, _, .int i, _ => .int i
  | _, _, .str x, _ => .str x
  | _, _, .tup h r, c => .tup (.of h) (Dvs.has r (by simpa [PyData.canLay0] using c))
  | _, _, .lst h r, c => .lst (.inl h) (Dvs.has r (by simpa [PyData.canLay0] using c))
  | _, _, .dct h r, c => by simp [PyData.canLay0] at c
theorem Dvs.has {K : PySem.W.Frag} {H : Hp} : ∀ {v : List V} {d : List PyData}, Dvs H v d → PyData.canLayAll0 d = true → HasDs K H v d
  | _, _, .nil, _ => .nil
  | _, _, .cons h r, c => by
    have c' := c
    simp only [PyData.canLayAll0, Bool.and_eq_true] at c'
    exact .cons (Dv.has h c'.1) (Dvs.has r c'.2)
end
theorem Same.rd {H H' : Hp} {a : Addr} {u : HO} (e : Same H H') (h : Rd H a u) : Rd H' a u := by
  rcases h with h | ⟨o, h⟩
  · exact .inl (e _ _ h)
  · exact .inr ⟨o, e _ _ h⟩
mutual
theorem Dv.keeps {H H' : Hp} (e : Same H H') : ∀ {v : V} {d : PyData}, Dv H v d → Dv H' v d
  | _, _, .non => .non
  | _, _, .bl b => .bl b
  | _, _, .int i => .int i
  | _, _, .str x => .str x
  | _, _, .tup h r => .tup (e _ _ h) (Dvs.keeps e r)
  | _, _, .lst h r => .lst (e.rd h) (Dvs.keeps e r)
  | _, _, .dct h r => .dct (e _ _ h) (Dks.keeps e r)
theorem Dks.keeps {H H' : Hp} (e : Same H H') : ∀ {v : List (Key × V)} {d : List (PyData × PyData)}, Dks H v d → Dks H' v d
  | _, _, .nil => .nil
  | _, _, .cons h r => .cons (Dv.keeps e h) (Dks.keeps e r)
theorem Dvs.keeps {H H' : Hp} (e : Same H H') : ∀ {v : List V} {d : List PyData}, Dvs H v d → Dvs H' v d
  | _, _, .nil => .nil
  | _, _, .cons h r => .cons (Dv.keeps e h) (Dvs.keeps e r)
end
theorem Dvs.length {H : Hp} : ∀ {xs : List V} {ds : List PyData}, Dvs H xs ds → xs.length = ds.length
  | _, _, .nil => rfl
  | _, _, .cons _ r => by simp [Dvs.length r]
theorem Dvs.get {H : Hp} : ∀ {xs : List V} {ds : List PyData} {i : Nat} {d : PyData}, Dvs H xs ds → ds[i]? = some d → ∃ x, xs[i]? = some x ∧ Dv H x d
  | _, _, _, _, .nil, e => by simp at e
  | _, _, 0, _, .cons h _, e => by simp at e; subst e; exact ⟨_, rfl, h⟩
  | _, _, i + 1, x, .cons _ r, e => by
    obtain ⟨d, h1, h2⟩ := Dvs.get (i := i) (d := x) r (by simpa using e)
    exact ⟨d, by simpa using h1, h2⟩
theorem Dvs.append {H : Hp} : ∀ {xs ys : List V} {ds es : List PyData}, Dvs H xs ds → Dvs H ys es → Dvs H (xs ++ ys) (ds ++ es)
  | _, _, _, _, .nil, s => s
  | _, _, _, _, .cons r t, s => .cons r (Dvs.append t s)
def GotD (H : Hp) (d : PyData) (Q : VK) : Prop := match d with
  | .none => Q .non H
  | .bool b => Q (.bl b) H
  | .int i => Q (.int i) H
  | .str x => Q (.str x) H
  | d => ∀ v, Dv H v d → Q v H
theorem GotD.use {H : Hp} {d : PyData} {Q : VK} (g : GotD H d Q) {v : V} (h : Dv H v d) : Q v H := by
  cases h with
  | non => exact g
  | bl b => exact g
  | int i => exact g
  | str x => exact g
  | tup h r => exact g _ (.tup h r)
  | lst h r => exact g _ (.lst h r)
  | dct h r => exact g _ (.dct h r)
theorem atI_map {H : Hp} {xs : List V} {ds : List PyData} {i : Int} {d : PyData} (r : Dvs H xs ds) (h : atI ds i = some d) : ∃ x, atI xs i = some x ∧ Dv H x d := by
  unfold atI at h ⊢
  rw [r.length]
  cases e : ixN ds.length i with
  | none => rw [e] at h; simp at h
  | some j =>
    rw [e] at h
    have h' : ds[j]? = some d := by simpa using h
    obtain ⟨x, h1, h2⟩ := r.get h'
    exact ⟨x, by simpa using h1, h2⟩
def isSeq (H : Hp) (v : V) (ds : List PyData) : Prop := Dv H v (.tuple ds) ∨ Dv H v (.list ds)
def rIxD : R2 := fun x y H Q => ∃ ds i d, y = .int i ∧ isSeq H x ds ∧ atI ds i = some d ∧ GotD H d Q
theorem rIxD_ok {K : PySem.W.Frag} {x y : V} {H : Hp} {Q : VK} (h : rIxD x y H Q) : rIx K x y H Q := by
  obtain ⟨ds, i, d, rfl, hs, hi, g⟩ := h
  rcases hs with hs | hs
  · cases hs with
    | tup h r =>
      obtain ⟨v, h1, h2⟩ := atI_map r hi
      exact .inr (.inl ⟨_, _, i, v, rfl, rfl, .of h, h1, g.use h2⟩)
  · cases hs with
    | lst h r =>
      obtain ⟨v, h1, h2⟩ := atI_map r hi
      exact .inl ⟨_, _, i, v, rfl, rfl, .inl h, h1, g.use h2⟩
section
variable {X : Cx}
def rIxA : R2 := fun x y H Q => rIxD x y H Q ∨ rIxS x y H Q
theorem ix_A : IxR X rIxA := fun value slice pins s σ H x y v u Q I r1 r2 h => ix_seq value slice pins s σ H x y v u Q I r1 r2 (h.elim rIxD_ok fun z => .inr (.inr z))
def rLenA : List V → Hp → VK → Prop := fun xs H Q => (∃ v ds, xs = [v] ∧ isSeq H v ds ∧ Q (.int (ds.length : Nat)) H) ∨ ∃ z, xs = [.str z] ∧ z.length ≤ sizeLine ∧ Q (.int (z.length : Nat)) H
theorem call_lenA : CallR X (.builtin "len") rLenA := fun pins s σ H xs us Q I r h => by
  rcases h with ⟨v, ds, rfl, hs, q⟩ | h
  · rcases hs with hs | hs
    · cases hs with
      | tup h t => exact call_len_seq pins s σ H _ us Q I r ⟨_, _, rfl, .inr (.of h), by rw [t.length]; exact q⟩
    · cases hs with
      | lst h t => exact call_len_seq pins s σ H _ us Q I r ⟨_, _, rfl, .inl (.inl h), by rw [t.length]; exact q⟩
  · exact call_len_str pins s σ H _ us Q I r h
def tyN : PyData → String
  | .none => "NoneType" | .bool _ => "bool" | .int _ => "int" | .str _ => "str" | .list _ => "list" | .tuple _ => "tuple" | .dict _ => "dict"
def kitBi (t n : String) : Option Bool := if ((Value.type t) == (Value.type n)) = true then some true else if PySem.W.kitMeta n = true then (PySem.fastBuiltinMro t).map (·.contains (.type n)) else none
theorem kitBi_ok {K : PySem.W.Frag} {t n : String} {b : Bool} (h : kitBi t n = some b) : PySem.W.kitOne K (.type t) (.type n) = some b := h
def isiN (t n : String) : Bool := t == n || (t == "bool" && n == "int")
theorem kitBi_all : (["NoneType", "bool", "int", "str", "list", "tuple", "dict"].all fun t => ["int", "bool", "str", "list", "tuple", "dict"].all fun n => kitBi t n == some (isiN t n)) = true := by decide +kernel
theorem kitBi_of {t n : String} (ht : t ∈ ["NoneType", "bool", "int", "str", "list", "tuple", "dict"]) (hn : n ∈ ["int", "bool", "str", "list", "tuple", "dict"]) : kitBi t n = some (isiN t n) := by
  have h := List.all_eq_true.mp (List.all_eq_true.mp kitBi_all t ht) n hn
  exact beq_iff_eq.mp h
theorem tyN_mem (d : PyData) : tyN d ∈ ["NoneType", "bool", "int", "str", "list", "tuple", "dict"] := by
  cases d <;> simp [tyN]
theorem Dv.ty {K : PySem.W.Frag} {H : Hp} {v : V} {d : PyData} (h : Dv H v d) : TyOf K H v (.type (tyN d)) := by
  cases h with
  | non => exact .non
  | bl b => exact .bl b
  | int i => exact .int i
  | str x => exact .str x
  | tup h r => exact .tup h
  | lst h r =>
    rcases h with h | ⟨o, h⟩
    · exact .lst h
    · exact .frz h
  | dct h r => exact .dK h
theorem r_isiD {K : PySem.W.Frag} {H : Hp} {v : V} {d : PyData} {n : String} {Q : VK} (h : Dv H v d) (hn : n ∈ ["int", "bool", "str", "list", "tuple", "dict"]) (q : Q (.bl (isiN (tyN d) n)) H) : rIsi K [v, .ty n] H Q :=
  ⟨v, .ty n, .type n, _, _, rfl, .ty n, h.ty, kitBi_ok (kitBi_of (tyN_mem d) hn), q⟩
def rEqA (K : PySem.W.Frag) (f : Bool → Bool) : R2 := fun x y H Q => (scal x y = true ∧ Q (.bl (f (decide (x = y)))) H) ∨ ∃ d e, Dv H x d ∧ Dv H y e ∧ d.canLay0 = true ∧ e.canLay0 = true ∧ d.depth ≤ 8 ∧ Q (.bl (f (PyData.eqv d e))) H
theorem op_eqA (hu : X.A.units + 8 < cLine) : OpR X (compareOp .Eq) (rEqA X.K id) := fun pins s σ H x y v u Q I rx ry h => by
  rcases h with h | ⟨d, e, h1, h2, h3, h4, h5, h6⟩
  · exact op_eq pins s σ H x y v u Q I rx ry h
  · exact op_eqD hu pins s σ H x y v u Q I rx ry ⟨d, e, h1.has h3, h2.has h4, h3, h4, h5, h6⟩
variable {es : List Expr} {t : TA} {pos : Pos}
def TupP (xs : List V) (H1 : Hp) (Q : VK) : Prop := xs.length ≤ sizeLine ∧ ∃ ds, Dvs H1 xs ds ∧ ∀ p H2, Same H1 H2 → H1 p = none → H2 p = some (.tup xs) → Dv H2 (.ref p) (.tuple ds) → Q (.ref p) H2
def LstP (xs : List V) (H1 : Hp) (Q : VK) : Prop := xs.length ≤ sizeLine ∧ ∃ ds, Dvs H1 xs ds ∧ ∀ p H2, Same H1 H2 → H1 p = none → H2 p = some (.lst xs) → Dvs H2 xs ds → Dv H2 (.ref p) (.list ds) → Q (.ref p) H2
def tTupD (t : TA) : TE := fun σ H Q => t σ H fun xs H1 => TupP xs H1 Q
theorem pe_tupD {x1} (h : PA X es t) : PE X (.Tuple es x1 pos) (tTupD t) := PE.weak (pe_tup h.m) fun σ H Q q => ⟨_, q, fun xs H1 ⟨hl, ds, hd, k⟩ => ⟨hl, fun p hp => by
  have sm : Same H1 (upd H1 p (.tup xs)) := fun b u e => by rw [upd_ne (ne_of_none e hp)]; exact e
  exact k p _ sm hp upd_same (.tup upd_same (hd.keeps sm))⟩⟩
def tLstD (t : TA) : TE := fun σ H Q => t σ H fun xs H1 => LstP xs H1 Q
theorem pe_lstD (h : PA X es t) : PE X (.List es pos) (tLstD t) := PE.weak (pe_lst h.m) fun σ H Q q => ⟨_, q, fun xs H1 ⟨hl, ds, hd, k⟩ => ⟨hl, fun p hp => by
  have sm : Same H1 (upd H1 p (.lst xs)) := fun b u e => by rw [upd_ne (ne_of_none e hp)]; exact e
  exact k p _ sm hp upd_same (hd.keeps sm) (.lst (.of upd_same) (hd.keeps sm))⟩⟩
variable {st : Stmt} {rest : List Stmt}
def tCut (t u : TS) : TS := fun D σ H => ∃ R : St → Hp → Prop, t { D with nx := R } σ H ∧ ∀ σ' H', R σ' H' → u D σ' H'
theorem pss_cut {t u : TS} (h1 : PS X st t) (h2 : PSs X rest u) : PSs X (st :: rest) (tCut t u) := by
  intro pins s σ H D I ⟨R, h, k⟩
  refine wpAny_execs_cons (thn (h1 pins s σ H { D with nx := R } I h) fun f s1 q => ?_)
  cases f with
  | next =>
    obtain ⟨σ', H', I', q⟩ := q
    exact h2 pins s1 σ' H' D I' (k _ _ q)
  | ret v => exact q
  | brk => exact q
  | cont => exact q
end
section
variable {σ : St} {H : Hp} {Q : VK} {D : Ends} {K : PySem.W.Frag}
theorem r_cutS {t u : TS} (h : t { D with nx := u D } σ H) : tCut t u D σ H := ⟨u D, h, fun _ _ z => z⟩
theorem r_tupD {t : TA} (h : t σ H fun xs H1 => TupP xs H1 Q) : tTupD t σ H Q := h
theorem r_tupE {xs : List V} {ds : List PyData} (hl : xs.length ≤ sizeLine) (hd : Dvs H xs ds) (k : ∀ v H2, Same H H2 → Dv H2 v (.tuple ds) → Q v H2) : TupP xs H Q := ⟨hl, ds, hd, fun p H2 s _ _ d => k (.ref p) H2 s d⟩
theorem r_lstD {t : TA} (h : t σ H fun xs H1 => LstP xs H1 Q) : tLstD t σ H Q := h
theorem r_eqS {f : Bool → Bool} {x y : V} (e : scal x y = true) (h : Q (.bl (f (decide (x = y)))) H) : rEqA K f x y H Q := .inl ⟨e, h⟩
theorem r_ixT {x : V} {ds : List PyData} {i : Int} {d : PyData} (hs : isSeq H x ds) (hi : atI ds i = some d) (g : GotD H d Q) : rIxA x (.int i) H Q := .inl ⟨ds, i, d, rfl, hs, hi, g⟩
theorem got_int {i : Int} (h : Q (.int i) H) : GotD H (.int i) Q := h
theorem got_non (h : Q .non H) : GotD H .none Q := h
theorem if_bl {b : Bool} {A B : Prop} (h1 : b = true → A) (h2 : b = false → B) : if b = true then A else B := by
  cases b
  · exact iteF (h2 rfl)
  · exact iteT (h1 rfl)
end
theorem Room.hu8 {k : Nat} {A : Around} (r : Room k A) : A.units + 8 < cLine := Nat.lt_of_le_of_lt (by omega) r.units
end L2

namespace L2
open PySem PySem.Spec PyProof.Rows
theorem same_upd {H : Hp} {t : Addr} {o : HO} (h : H t = none) : Same H (upd H t o) := fun b u e => by rw [upd_ne (ne_of_none e h)]; exact e
section
variable {σ : St} {H : Hp} {Q : VK} {D : Ends} {K : PySem.W.Frag}
theorem r_rt {v : V} {R : St → Hp → Prop} {rt : VK} {bk ct : St → Hp → Prop} (h : rt v H) : (Ends.mk R rt bk ct).rt v H := h
end
end L2
namespace L2
open PySem PySem.Spec PyProof.Rows
end L2
namespace L2
open PySem PySem.Spec PyProof.Rows
def isInt : PyData → Bool | .int _ => true | .bool _ => true | _ => false
def isBool : PyData → Bool | .bool _ => true | _ => false
def isStr : PyData → Bool | .str _ => true | _ => false
def isLst : PyData → Bool | .list _ => true | _ => false
def isTup : PyData → Bool | .tuple _ => true | _ => false
def isDct : PyData → Bool | .dict _ => true | _ => false
section
variable {K : PySem.W.Frag} {H : Hp} {v : V} {d : PyData} {Q : VK}
theorem r_isi_int (h : Dv H v d) (q : Q (.bl (isInt d)) H) : rIsi K [v, .ty "int"] H Q := r_isiD h (by decide) (by cases d <;> exact q)
theorem r_isi_bool (h : Dv H v d) (q : Q (.bl (isBool d)) H) : rIsi K [v, .ty "bool"] H Q := r_isiD h (by decide) (by cases d <;> exact q)
theorem r_isi_str (h : Dv H v d) (q : Q (.bl (isStr d)) H) : rIsi K [v, .ty "str"] H Q := r_isiD h (by decide) (by cases d <;> exact q)
def Ins (H : Hp) (v : V) (C : Addr) (fs : List (Str × V)) : Prop := ∃ p dx, v = .ref p ∧ H p = some (.ins C dx fs)
theorem Ins.keeps {H H' : Hp} {C : Addr} {fs : List (Str × V)} (s : Same H H') (h : Ins H v C fs) : Ins H' v C fs := by
  obtain ⟨p, dx, rfl, e⟩ := h; exact ⟨p, dx, rfl, s _ _ e⟩
theorem r_fldI {R : V → Prop} {C : Addr} {fs : List (Str × V)} {f : Str} {x : V} (hp : Ins H v C fs) (c : Cls K C) (n : NoAttr K C f) (l : fs.lookup f = some x) (h : R x) :
    ∃ a C dx fs x, v = .ref a ∧ H a = some (.ins C dx fs) ∧ Cls K C ∧ NoAttr K C f ∧ fs.lookup f = some x ∧ R x := by
  obtain ⟨p, dx, rfl, e⟩ := hp
  exact ⟨p, C, dx, fs, x, rfl, e, c, n, l, h⟩
theorem r_methI {C : Addr} {m : Str} {fs : List (Str × V)} {R : Prop} (hp : Ins H v C fs) (hl : fs.lookup m = none) (h : R) : ∃ a dx fs, v = .ref a ∧ H a = some (.ins C dx fs) ∧ fs.lookup m = none ∧ R := by
  obtain ⟨p, dx, rfl, e⟩ := hp
  exact ⟨p, dx, fs, rfl, e, hl, h⟩
end
def look (f : Str) : List (Str × V) → Option V
  | [] => none
  | (g, v) :: r => if f = g then some v else look f r
theorem lookup_look (f : Str) : ∀ fs : List (Str × V), fs.lookup f = look f fs
  | [] => rfl
  | (g, v) :: r => by
    show (match f == g with | true => some v | false => r.lookup f) = if f = g then some v else look f r
    by_cases h : f = g
    · subst h; rw [if_pos rfl, beq_self_eq_true]
    · rw [if_neg h, beq_eq_false_iff_ne.mpr h]; exact lookup_look f r
end L2
namespace L2
open PySem PySem.Spec PyProof.Rows
section
variable {X : Cx}
def rIxK (K : PySem.W.Frag) : R2 := fun x y H Q => rIxA x y H Q ∨ rIxL K x y H Q
theorem ix_K : IxR X (rIxK X.K) := fun value slice pins s σ H x y v u Q I r1 r2 h => h.elim (ix_A value slice pins s σ H x y v u Q I r1 r2) (ix_list value slice pins s σ H x y v u Q I r1 r2)
def rLenK (K : PySem.W.Frag) : List V → Hp → VK → Prop := fun xs H Q => rLenA xs H Q ∨ ∃ p ys, xs = [.ref p] ∧ SqL K H p ys ∧ Q (.int ys.length) H
theorem call_lenK : CallR X (.builtin "len") (rLenK X.K) := fun pins s σ H xs us Q I r h => by
  rcases h with h | ⟨p, ys, e, hl, q⟩
  · exact call_lenA pins s σ H xs us Q I r h
  · exact call_len_seq pins s σ H xs us Q I r ⟨p, ys, e, .inl hl, q⟩
end
section
variable {σ : St} {H : Hp} {Q : VK} {D : Ends} {K : PySem.W.Frag}
theorem r_ixD {x : V} {ds : List PyData} {i : Int} {d : PyData} (hs : isSeq H x ds) (hi : atI ds i = some d) (g : GotD H d Q) : rIxK K x (.int i) H Q := .inl (r_ixT hs hi g)
theorem r_ixL {p : Addr} {xs : List V} {i : Int} {v : V} (hs : SqL K H p xs) (hi : atI xs i = some v) (g : Q v H) : rIxK K (.ref p) (.int i) H Q := .inr ⟨p, xs, i, v, rfl, rfl, hs, hi, g⟩
theorem r_lenL {p : Addr} {xs : List V} (hs : SqL K H p xs) (h : Q (.int xs.length) H) : rLenK K [.ref p] H Q := .inr ⟨p, xs, rfl, hs, h⟩
theorem r_sfld {ta tv : TE} {f : Str} (h : tv σ H fun y H1 => ta σ H1 fun x H2 => ∃ a C dx fs, x = .ref a ∧ H2 a = some (.ins C dx fs) ∧ Cls K C ∧ NoAttr K C f ∧ fs.length < 1000 ∧ D.nx σ (upd H2 a (.ins C dx (putF f y fs)))) : sFld K ta tv f D σ H := h
theorem r_sfldv {p C dx : Addr} {fs fs' : List (Str × V)} {f : Str} {y : V} (hp : H p = some (.ins C dx fs)) (c : Cls K C) (n : NoAttr K C f) (hl : fs.length < 1000) (e : putF f y fs = fs') (h : D.nx σ (upd H p (.ins C dx fs'))) :
    ∃ a C dx fs, V.ref p = .ref a ∧ H a = some (.ins C dx fs) ∧ Cls K C ∧ NoAttr K C f ∧ fs.length < 1000 ∧ D.nx σ (upd H a (.ins C dx (putF f y fs))) := ⟨p, C, dx, fs, rfl, hp, c, n, hl, by rw [e]; exact h⟩
def spInit (C : Addr) (pre : List V → Prop) (fs : List V → List (Str × V)) : Sp := fun vs H Q _ => ∃ p dx args, vs = .ref p :: args ∧ pre args ∧ H p = some (.ins C dx []) ∧ Q .non (upd H p (.ins C dx (fs args)))
theorem r_makeE {C : Addr} {pre : List V → Prop} {fs : List V → List (Str × V)} {args : List V} {E : XK} (hp : pre args) (k : ∀ v H2, Same H H2 → Ins H2 v C (fs args) → Q v H2) :
    ∀ x dx, H x = none → H dx = none → dx ≠ x → spInit C pre fs (.ref x :: args) (upd (upd H dx (.own x)) x (.ins C dx [])) (fun v H2 => v = .non ∧ Q (.ref x) H2) E := by
  intro x dx hx hd ne
  refine ⟨x, dx, args, rfl, hp, upd_same, rfl, k _ _ (fun b u e => ?_) ⟨x, dx, rfl, upd_same⟩⟩
  rw [upd_ne (ne_of_none e hx), upd_ne (ne_of_none e hx), upd_ne (ne_of_none e hd)]
  exact e
def rMin : List V → Hp → VK → Prop := fun xs H Q => ∃ i j, xs = [.int i, .int j] ∧ Q (.int (if j < i then j else i)) H
theorem r_is {R : Prop} (h : R) : V.non = V.non ∧ R := ⟨rfl, h⟩
end
def Bg (i : Int) : Prop := i.natAbs < 2 ^ 2000
theorem bg {i : Int} (h1 : -(10 ^ 200) < i) (h2 : i < 10 ^ 200) : i.natAbs < 2 ^ 2000 := by
  have : (10 : Nat) ^ 200 < 2 ^ 2000 := by decide +kernel
  have h3 : i.natAbs < 10 ^ 200 := by
    have e : ((10 : Nat) ^ 200 : Nat) = ((10 : Int) ^ 200).toNat := by decide +kernel
    rw [e]
    generalize (10 : Int) ^ 200 = m at h1 h2 ⊢
    omega
  exact Nat.lt_trans h3 this
theorem cmulB {i j : Int} (h1 : -(10 ^ 200) < i ∧ i < 10 ^ 200) (h2 : -(10 ^ 200) < j ∧ j < 10 ^ 200) : CMulB i j := ⟨bg h1.1 h1.2, bg h2.1 h2.2⟩
theorem cdivB {i j : Int} (h1 : 0 < j) (h2 : j < 10 ^ 200) : CDivB i j := ⟨h1, bg (Int.lt_trans (by decide) h1) h2⟩
def cell (ns : List Int) (k : Nat) : Int := ns.getD k 0
def spCell (K : PySem.W.Frag) : Sp := fun vs H Q _ => ∃ l ns k, vs = [.ref l, .int k] ∧ SqL K H l (ns.map V.int) ∧ 0 ≤ k ∧ Q (.int (cell ns k.toNat)) H
theorem u_cell {K : PySem.W.Frag} {H : Hp} {Q : VK} {E : XK} {l : Addr} {ns : List Int} {k : Int} (h : SqL K H l (ns.map V.int)) (hk : 0 ≤ k) (q : Q (.int (cell ns k.toNat)) H) : spCell K [.ref l, .int k] H Q E := ⟨l, ns, k, rfl, h, hk, q⟩
theorem cell_at {ns : List Int} {k : Int} (h0 : 0 ≤ k) (h : k < (ns.map V.int).length) : atI (ns.map V.int) k = some (.int (cell ns k.toNat)) := by
  obtain ⟨n, rfl⟩ := Int.eq_ofNat_of_zero_le h0
  refine atI_nat ?_
  have hn : n < ns.length := by simpa using h
  simp [cell, hn, List.getD_eq_getElem?_getD]
theorem cell_no {ns : List Int} {k : Int} (h0 : 0 ≤ k) (h : ¬ k < (ns.map V.int).length) : cell ns k.toNat = 0 := by
  have : ns.length ≤ k.toNat := by simp at h; omega
  simp [cell, List.getD_eq_getElem?_getD, this]
end L2
namespace L2
open PySem PySem.Spec PyProof.Rows
def withD (sp : Sp) (vs : List V) (H : Hp) (Q : VK) (E : XK) : Prop := ∃ ws, vs = ws ∧ sp ws H Q E
theorem withD_eq (sp : Sp) (vs : List V) (H : Hp) (Q : VK) (E : XK) : withD sp vs H Q E = sp vs H Q E := propext ⟨fun ⟨_, e, h⟩ => e ▸ h, fun h => ⟨vs, rfl, h⟩⟩
def tCallN (sp : Sp) (dvs : List V) (E : XK) (t : TA) : TE := fun σ H Q => t σ H fun vs H1 => withD sp (vs ++ dvs) H1 Q E
theorem tCallN_eq (sp : Sp) (dvs : List V) (E : XK) (t : TA) : tCallN sp dvs E t = tCall sp dvs E t := by
  funext σ H Q; unfold tCallN tCall; congr 1; funext vs H1; exact withD_eq _ _ _ _ _
def tMethN (C : Addr) (m : Str) (sp : Sp) (dvs : List V) (E : XK) (ta : TE) (t : TA) : TE := fun σ H Q => ta σ H fun x H1 => ∃ a dx fs, x = .ref a ∧ H1 a = some (.ins C dx fs) ∧ fs.lookup m = none ∧
  t σ H1 fun vs H2 => withD sp (x :: (vs ++ dvs)) H2 Q E
theorem tMethN_eq (C : Addr) (m : Str) (sp : Sp) (dvs : List V) (E : XK) (ta : TE) (t : TA) : tMethN C m sp dvs E ta t = tMeth C m sp dvs E ta t := by
  funext σ H Q; unfold tMethN tMeth; congr 1; funext x H1
  have : ∀ H2 : Hp, (fun vs H2 => withD sp (x :: (vs ++ dvs)) H2 Q E) = fun vs H2 => sp (x :: (vs ++ dvs)) H2 Q E := fun _ => by funext vs H2; exact withD_eq _ _ _ _ _
  rw [this H1]
def MakeP (C : Addr) (sp : Sp) (vs : List V) (H1 : Hp) (Q : VK) (E : XK) : Prop := ∃ ws, vs = ws ∧ ∀ x dx, H1 x = none → H1 dx = none → dx ≠ x →
  sp (.ref x :: ws) (upd (upd H1 dx (.own x)) x (.ins C dx [])) (fun v H2 => v = .non ∧ Q (.ref x) H2) E
def tMakeN (C : Addr) (sp : Sp) (dvs : List V) (E : XK) (t : TA) : TE := fun σ H Q => t σ H fun vs H1 => MakeP C sp (vs ++ dvs) H1 Q E
theorem tMakeN_eq (C : Addr) (sp : Sp) (dvs : List V) (E : XK) (t : TA) : tMakeN C sp dvs E t = tMake C sp dvs E t := by
  funext σ H Q; unfold tMakeN tMake MakeP; congr 1; funext vs H1
  exact propext ⟨fun ⟨_, e, h⟩ => by subst e; exact h, fun h => ⟨_, rfl, h⟩⟩
section
variable {X : Cx} {k : Nat} {f C : Addr} {ps : List Str} {sp : Sp} {dvs : List V} {x m : Str} {p pos apos : Pos} {e o : Expr} {es : List Expr} {ta : TE} {t : TA}
theorem pn_call (c : Cal X.prog X.w X.K X.mg X.base k f ps dvs sp) (hr : Room k X.A) (hg : Gl X x) (hm : X.mg x = some (.ref f)) (hk : PySem.W.keepIn X.K (.ref f) = true)
    (ha : PA X (e :: es) t) (hdb : (x == ("__debug__" : Str)) = false := by decide) (he : starEach (e :: es) X.env = (false, eval e X.env) :: starEach es X.env := by rfl) (hpl : (backTo pos (starEach es X.env)).any (·.1) = false := by rfl) :
    PE X (.Call (.Name x p) (e :: es) [] pos) (tCallN sp dvs E0 t) := by rw [tCallN_eq]; exact pc_call c hr hg hm hk ha hdb he hpl
theorem pn_meth {pl : Sem Bool} (he : PE X o ta) (c : Cls X.K C) (hm : Meth X.K C m f) (F : Cal X.prog X.w X.K X.mg X.base k f ps dvs sp) (hr : Room k X.A) (ha : PA X (e :: es) t)
    (hst : starEach (e :: es) X.env = (false, eval e X.env) :: starEach es X.env := by rfl) (hpl : (backTo pos (starEach es X.env)).any (·.1) = false := by rfl)
    (ht : eval (.Call (.Attribute o m apos) (e :: es) [] pos) X.env = (do
      let ov ← eval o X.env
      standAt apos.atName
      let (f, first) ← holding [ov] (getMethod ov m pl)
      callWith pos f first (backTo pos (starEach (e :: es) X.env)) (backToKw pos (keywordEach [] X.env))) := by rfl) :
    PE X (.Call (.Attribute o m apos) (e :: es) [] pos) (tMethN C m sp dvs E0 ta t) := by rw [tMethN_eq]; exact pc_meth he c hm F hr ha hst hpl ht
theorem pn_meth0 {pl : Sem Bool} (he : PE X o ta) (c : Cls X.K C) (hm : Meth X.K C m f) (F : Cal X.prog X.w X.K X.mg X.base k f ps dvs sp) (hr : Room k X.A)
    (ht : eval (.Call (.Attribute o m apos) [] [] pos) X.env = (do
      let ov ← eval o X.env
      standAt apos.atName
      let (f, first) ← holding [ov] (getMethod ov m pl)
      callWith pos f first (backTo pos (starEach [] X.env)) (backToKw pos (keywordEach [] X.env))) := by rfl) :
    PE X (.Call (.Attribute o m apos) [] [] pos) (tMethN C m sp dvs E0 ta tNil) := by rw [tMethN_eq]; exact pc_meth0 he c hm F hr ht
theorem pn_make (M : Mk X.K C f) (F : Cal X.prog X.w X.K X.mg X.base k f ps dvs sp) (hr : Room (k + 1) X.A) (hg : Gl X x) (hm : X.mg x = some (.ref C))
    (ha : PA X (e :: es) t) (hdb : (x == ("__debug__" : Str)) = false := by decide) (he : starEach (e :: es) X.env = (false, eval e X.env) :: starEach es X.env := by rfl) (hpl : (backTo pos (starEach es X.env)).any (·.1) = false := by rfl) :
    PE X (.Call (.Name x p) (e :: es) [] pos) (tMakeN C sp dvs E0 t) := by rw [tMakeN_eq]; exact pc_make M F hr hg hm ha hdb he hpl
theorem pn_base {pl : Sem Bool} (hg : Gl X x) (hm : X.mg x = some (.ref C)) (B : BaseM X.K C m f) (F : Cal X.prog X.w X.K X.mg X.base k f ps dvs sp) (hr : Room k X.A) (ha : PA X (e :: es) t)
    (hdb : (x == ("__debug__" : Str)) = false := by decide)
    (hst : starEach (e :: es) X.env = (false, eval e X.env) :: starEach es X.env := by rfl) (hpl : (backTo pos (starEach es X.env)).any (·.1) = false := by rfl)
    (ht : eval (.Call (.Attribute (.Name x p) m apos) (e :: es) [] pos) X.env = (do
      let ov ← eval (.Name x p) X.env
      standAt apos.atName
      let (f, first) ← holding [ov] (getMethod ov m pl)
      callWith pos f first (backTo pos (starEach (e :: es) X.env)) (backToKw pos (keywordEach [] X.env))) := by rfl) :
    PE X (.Call (.Attribute (.Name x p) m apos) (e :: es) [] pos) (tCallN sp dvs E0 t) := by rw [tCallN_eq]; exact pc_base hg hm B F hr ha hdb hst hpl ht
end
section
variable {σ : St} {H : Hp} {Q : VK} {D : Ends} {K : PySem.W.Frag}
theorem r_callN {sp : Sp} {dvs : List V} {E : XK} {t : TA} (h : t σ H fun vs H1 => withD sp (vs ++ dvs) H1 Q E) : tCallN sp dvs E t σ H Q := h
theorem r_wd {sp : Sp} {vs ws : List V} {E : XK} (e : vs = ws) (h : sp ws H Q E) : withD sp vs H Q E := ⟨ws, e, h⟩
theorem r_methN {C : Addr} {m : Str} {sp : Sp} {dvs : List V} {E : XK} {ta : TE} {t : TA} (h : ta σ H fun x H1 => ∃ a dx fs, x = .ref a ∧ H1 a = some (.ins C dx fs) ∧ fs.lookup m = none ∧ t σ H1 fun vs H2 => withD sp (x :: (vs ++ dvs)) H2 Q E) : tMethN C m sp dvs E ta t σ H Q := h
theorem r_makeN {C : Addr} {sp : Sp} {dvs : List V} {E : XK} {t : TA} (h : t σ H fun vs H1 => MakeP C sp (vs ++ dvs) H1 Q E) : tMakeN C sp dvs E t σ H Q := h
theorem r_makeI {C : Addr} {pre : List V → Prop} {fs : List V → List (Str × V)} {us args : List V} {E : XK} (e : us = args) (hp : pre args) (k : ∀ v H2, Same H H2 → Ins H2 v C (fs args) → Q v H2) : MakeP C (spInit C pre fs) us H Q E := ⟨args, e, r_makeE hp k⟩
theorem r_truB {b : Bool} {R : Bool → Prop} (h : R b) : ∃ k, TruV K (.bl b) H k ∧ R k := ⟨b, rfl, h⟩
end
end L2

namespace L2
open PySem PySem.Spec PyProof.Rows
theorem len64 {n : Nat} (h : Nat.ble n 64 = true) : n ≤ sizeLine := Nat.le_trans (Nat.le_of_ble_eq_true h) (by decide)
end L2

namespace L2
open PySem PySem.Spec PyProof.Rows
theorem got_any {H : Hp} {d : PyData} {Q : VK} (h : ∀ v, Dv H v d → Q v H) : GotD H d Q := by
  cases d with
  | none => exact h _ .non
  | bool b => exact h _ (.bl b)
  | int i => exact h _ (.int i)
  | str x => exact h _ (.str x)
  | list l => exact h
  | tuple l => exact h
  | dict l => exact h
def RetD (H : Hp) (Q : VK) (d : PyData) : Prop := ∀ v H', Same H H' → Dv H' v d → Q v H'
end L2

namespace L2
open PySem PySem.Spec PyProof.Rows
section
variable {X : Cx} {st : Stmt} {rest : List Stmt}
def tCutM (t u : TS) : TS := tCut t u
theorem pss_cutM {t u : TS} (h1 : PS X st t) (h2 : PSs X rest u) : PSs X (st :: rest) (tCutM t u) := pss_cut h1 h2
end
section
variable {σ : St} {H : Hp} {Q : VK} {D : Ends} {K : PySem.W.Frag}
theorem r_cutM {t u : TS} (R : St → Hp → Prop) (h : t { D with nx := R } σ H) (k : ∀ σ' H', R σ' H' → u D σ' H') : tCutM t u D σ H := ⟨R, h, k⟩
theorem r_lstE {xs : List V} {ds : List PyData} (hl : xs.length ≤ sizeLine) (hd : Dvs H xs ds) (k : ∀ p H2, Same H H2 → H p = none → H2 p = some (.lst xs) → Dvs H2 xs ds → Dv H2 (.ref p) (.list ds) → Q (.ref p) H2) : LstP xs H Q := ⟨hl, ds, hd, k⟩
def ForL (K : PySem.W.Frag) (x : V) (g : TG) (tb : TS) (D : Ends) (σ : St) (H1 : Hp) : Prop := ∃ a, x = .ref a ∧ (∃ xs, SqL K H1 a xs) ∧ ∃ W : Nat → Nat → St → Hp → Prop, (∃ m, W 0 m σ H1) ∧ ∀ i m σ H, W i m σ H →
      ((Itl K a).stop i H ∧ D.nx σ H) ∨ ((Itl K a).go i H ∧ ∃ N : St → Hp → Prop, (∀ σ' H', N σ' H' → ∃ m', m' < m ∧ W (i + 1) m' σ' H') ∧ ∀ x H', (Itl K a).yld i H x H' → g x σ H' fun σ2 H2 => tb { D with nx := N, ct := N, bk := D.nx } σ2 H2)
theorem r_for {tl : TE} {g : TG} {tb : TS} (h : tl σ H fun x H1 => ForL K x g tb D σ H1) : tFor (iList K tl) g tb D σ H := h
theorem forL {a : Addr} {xs : List V} {g : TG} {tb : TS} (hl : SqL K H a xs) (Pv : Nat → St → Hp → Prop) (h0 : Pv 0 σ H) (hk : ∀ i σ H, i ≤ xs.length → Pv i σ H → SqL K H a xs)
    (hs : ∀ i x σ H, xs[i]? = some x → Pv i σ H → g x σ H fun σ2 H2 => tb { D with nx := Pv (i + 1), ct := Pv (i + 1), bk := D.nx } σ2 H2) (hd : ∀ σ H, Pv xs.length σ H → D.nx σ H) : ForL K (.ref a) g tb D σ H :=
  ⟨a, rfl, ⟨xs, hl⟩, for_list Pv h0 hk hs hd⟩
def ForR (lo : Int) (n : Nat) (g : TG) (tb : TS) (D : Ends) (σ : St) (H1 : Hp) : Prop := ∃ W : Nat → Nat → St → Hp → Prop, (∃ m, W 0 m σ H1) ∧ ∀ i m σ H, W i m σ H →
      ((Itr lo n).stop i H ∧ D.nx σ H) ∨ ((Itr lo n).go i H ∧ ∃ N : St → Hp → Prop, (∀ σ' H', N σ' H' → ∃ m', m' < m ∧ W (i + 1) m' σ' H') ∧ ∀ x H', (Itr lo n).yld i H x H' → g x σ H' fun σ2 H2 => tb { D with nx := N, ct := N, bk := D.nx } σ2 H2)
theorem r_forR1 {ta : TA} {g : TG} {tb : TS} (h : ta σ H fun vs H1 => ∃ j : Int, vs = [.int j] ∧ -(2 ^ 62) ≤ j ∧ j < 2 ^ 62 ∧ ForR 0 j.toNat g tb D σ H1) : tFor (iRng1 ta) g tb D σ H := h
theorem r_rng1 {j : Int} {R : Int → Prop} (h1 : -(2 ^ 62) ≤ j) (h2 : j < 2 ^ 62) (h : R j) : ∃ i : Int, [V.int j] = [.int i] ∧ -(2 ^ 62) ≤ i ∧ i < 2 ^ 62 ∧ R i := ⟨j, rfl, h1, h2, h⟩
theorem forR_same {lo : Int} {n i : Nat} {tb : TS} (S : Nat → St → Prop) (h0 : S 0 σ)
    (hs : ∀ j σ' H', j < n → S j σ' → Same H H' → tb { D with nx := fun s h => S (j + 1) s ∧ Same H h, ct := fun s h => S (j + 1) s ∧ Same H h, bk := D.nx } (σ'.set i (some (.int (lo + j)))) H') (hd : ∀ σ' H', S n σ' → Same H H' → D.nx σ' H') : ForR lo n (gName i) tb D σ H :=
  for_range (fun j s h => S j s ∧ Same H h) ⟨h0, Same.refl _⟩ (fun j σ' H' hj p => hs j σ' H' hj p.1 p.2) fun σ' H' p => hd σ' H' p.1 p.2
end
end L2
namespace L2
open PySem PySem.Spec PyProof.Rows
end L2
namespace L2
open PySem PySem.Spec PyProof.Rows
section
variable {X : Cx}
def rMinP : List V → Hp → VK → Prop := fun xs H Q => ∃ i j, xs = [.int i, .int j] ∧ ∀ k, (k = i ∨ k = j) → k ≤ i → k ≤ j → Q (.int k) H
theorem call_minP (hc : X.calm = true) : CallR X (.builtin "min") rMinP := fun pins s σ H xs us Q I r ⟨i, j, e, h⟩ => call_min2 hc pins s σ H xs us Q I r ⟨i, j, e, by
  split
  · exact h _ (.inr rfl) (by omega) (by omega)
  · exact h _ (.inl rfl) (by omega) (by omega)⟩
def rMaxP : List V → Hp → VK → Prop := fun xs H Q => ∃ i j, xs = [.int i, .int j] ∧ ∀ k, (k = i ∨ k = j) → i ≤ k → j ≤ k → Q (.int k) H
theorem call_maxP (hc : X.calm = true) : CallR X (.builtin "max") rMaxP := fun pins s σ H xs us Q I r ⟨i, j, e, h⟩ => call_max2 hc pins s σ H xs us Q I r ⟨i, j, e, by
  split
  · exact h _ (.inr rfl) (by omega) (by omega)
  · exact h _ (.inl rfl) (by omega) (by omega)⟩
def rModP : R2 := fun x y H Q => ∃ i j, x = .int i ∧ y = .int j ∧ 0 < j ∧ (0 ≤ i % j → i % j < j → Q (.int (i % j)) H)
theorem op_modP : OpR X (binaryOp .Mod) rModP := fun pins s σ H x y v u Q I rx ry ⟨i, j, e1, e2, hj, h⟩ => op_mod pins s σ H x y v u Q I rx ry ⟨i, j, e1, e2, hj, h (Int.emod_nonneg _ (by omega)) (Int.emod_lt_of_pos _ hj)⟩
end
section
variable {σ : St} {H : Hp} {Q : VK} {D : Ends} {K : PySem.W.Frag}
theorem r_minP {i j : Int} (h : ∀ k, (k = i ∨ k = j) → k ≤ i → k ≤ j → Q (.int k) H) : rMinP [.int i, .int j] H Q := ⟨i, j, rfl, h⟩
theorem r_maxP {i j : Int} (h : ∀ k, (k = i ∨ k = j) → i ≤ k → j ≤ k → Q (.int k) H) : rMaxP [.int i, .int j] H Q := ⟨i, j, rfl, h⟩
theorem r_modP {i j : Int} (hj : 0 < j) (h : 0 ≤ i % j → i % j < j → Q (.int (i % j)) H) : rModP (.int i) (.int j) H Q := ⟨i, j, rfl, rfl, hj, h⟩
end
end L2
namespace L2
open PySem PySem.Spec PyProof.Rows
theorem FnOk.ex {ι : Type} {P : Program} {w : World} {K : PySem.W.Frag} {mg : Str → Option Value} {base : Heap} {CX : CXT} {k : Nat} {f : Addr} {fd : FuncData} {ps : List Str} {sp : ι → Sp} (h : ∀ i, FnOk P w K mg base CX k f fd ps (sp i)) :
    FnOk P w K mg base CX k f fd ps (fun vs H Q E => ∃ i, sp i vs H Q E) :=
  ⟨fun vs H Q E ⟨i, q⟩ => (h i).len vs H Q E q, fun A outer s H args us vs Q E hr he hb hv ⟨i, q⟩ => (h i).run A outer s H args us vs Q E hr he hb hv q⟩
end L2
namespace L2
open PySem PySem.Spec PyProof.Rows
section
variable {σ : St} {H : Hp} {Q : VK} {D : Ends} {K : PySem.W.Frag}
def WTurn (Pv : Nat → St → Hp → Prop) (m : Nat) (tb : TS) (D : Ends) (σ : St) (H1 : Hp) : Prop := ∃ N : St → Hp → Prop, (∀ σ' H', N σ' H' → ∃ m', m' < m ∧ Pv m' σ' H') ∧ tb { D with nx := N, ct := N, bk := D.nx } σ H1
theorem r_turn {Pv : Nat → St → Hp → Prop} {m : Nat} {tb : TS} (h : tb { D with nx := fun σ' H' => ∃ m', m' < m ∧ Pv m' σ' H', ct := fun σ' H' => ∃ m', m' < m ∧ Pv m' σ' H', bk := D.nx } σ H) : WTurn Pv m tb D σ H := ⟨_, fun _ _ h => h, h⟩
theorem r_while {c : TT} {tb : TS} (Pv : Nat → St → Hp → Prop) (h0 : ∃ m, Pv m σ H) (hs : ∀ m σ H, Pv m σ H → c σ H fun b H1 => if b = true then WTurn Pv m tb D σ H1 else D.nx σ H1) : tWhile c tb D σ H := ⟨Pv, h0, hs⟩
theorem u_init {C p dx : Addr} {pre : List V → Prop} {fs : List V → List (Str × V)} {args : List V} {E : XK} (h : pre args) (hp : H p = some (.ins C dx [])) (q : Q .non (upd H p (.ins C dx (fs args)))) : spInit C pre fs (.ref p :: args) H Q E := ⟨p, dx, args, rfl, h, hp, q⟩
end
theorem pow_split {l : Int} (h : 0 < l) : (2 : Int) ^ l.toNat = 2 * 2 ^ (l - 1).toNat := by
  have e : l.toNat = (l - 1).toNat + 1 := by omega
  rw [e, Int.pow_succ, Int.mul_comm]
theorem pow_pos' (n : Nat) : (1 : Int) ≤ 2 ^ n := by
  induction n with
  | zero => decide
  | succ n ih => rw [Int.pow_succ]; omega
end L2
namespace L2
theorem len1000 {n : Nat} (h : Nat.blt n 1000 = true) : n < 1000 := by
  unfold Nat.blt at h
  exact Nat.le_of_ble_eq_true h
end L2

namespace L2
open PySem PySem.Spec PyProof.Rows
section
variable {X : Cx}
def rIsB (f : Bool → Bool) : R2 := fun x y H Q => ∃ b c, x = .bl b ∧ y = .bl c ∧ Q (.bl (f (b == c))) H
def rStrI : List V → Hp → VK → Prop := fun xs H Q => ∃ i, xs = [.int i] ∧ i.natAbs.log2 < 1920 ∧ Q (.str (toString i)) H
theorem call_strI : CallR X (.type "str") rStrI := fun pins s σ H xs us Q I r h => call_str_int pins s σ H xs us Q I r h
end
theorem log_lim {i : Int} (h1 : -(10 ^ 200) < i) (h2 : i < 10 ^ 200) : i.natAbs.log2 < 1920 := by
  by_cases h0 : i.natAbs = 0
  · rw [h0]; decide
  · refine (Nat.log2_lt h0).mpr ?_
    have h3 : i.natAbs < 10 ^ 200 := by
      have e : ((10 : Nat) ^ 200 : Nat) = ((10 : Int) ^ 200).toNat := by decide +kernel
      rw [e]
      generalize (10 : Int) ^ 200 = m at h1 h2 ⊢
      omega
    exact Nat.lt_trans h3 (by decide +kernel)
section
variable {σ : St} {H : Hp} {Q : VK} {D : Ends} {K : PySem.W.Frag}
theorem r_strI {i : Int} (h1 : -(10 ^ 200) < i) (h2 : i < 10 ^ 200) (h : Q (.str (toString i)) H) : rStrI [.int i] H Q := ⟨i, rfl, log_lim h1 h2, h⟩
end
end L2
namespace L2
open PySem PySem.Spec PyProof.Rows
theorem r_powE {H : Hp} {Q : VK} {i j p : Int} (c : CPow i j) (e : i ^ j.toNat = p) (h : Q (.int p) H) : rI CPow (fun i j => .int (i ^ j.toNat)) (.int i) (.int j) H Q := ⟨i, j, rfl, rfl, c, by show Q (.int (i ^ j.toNat)) H; rw [e]; exact h⟩
end L2
namespace L2
open PySem PySem.Spec PyProof.Rows
section
variable {X : Cx} {e : Expr}
def tOrE (t u : TE) : TE := fun σ H Q => t σ H Q ∨ u σ H Q
theorem pe_or2 {t u : TE} (h1 : PE X e t) (h2 : PE X e u) : PE X e (tOrE t u) := PE.or h1 h2
end
section
variable {σ : St} {H : Hp} {Q : VK} {D : Ends} {K : PySem.W.Frag}
theorem r_or1 {t u : TE} (h : t σ H Q) : tOrE t u σ H Q := .inl h
theorem r_or2 {t u : TE} (h : u σ H Q) : tOrE t u σ H Q := .inr h
def Unp2 (K : PySem.W.Frag) (x : V) (i j : Nat) (D : Ends) (σ : St) (H : Hp) : Prop := gTup K 2 (gCons (gName i) (gCons (gName j) gNil)) x σ H D.nx
end
end L2
namespace L2
end L2

namespace L2
open PySem PySem.Spec PyProof.Rows PySem.W
structure Swo (lt : Nat → Nat → Bool) : Prop where
  irr : ∀ a, lt a a = false
  asy : ∀ a b, lt a b = true → lt b a = false
  ntr : ∀ a b c, lt a b = false → lt b c = false → lt a c = false
section
variable {lt : Nat → Nat → Bool} {n : Nat} {S : Shared → Prop} {cmp : Nat → Nat → (Bool → Shared → Prop) → Shared → Prop}
def Up (lt : Nat → Nat → Bool) (p : Array Nat) (k : Nat) : Prop := ∀ i j, i < j → j < k → lt (p.getD j 0) (p.getD i 0) = false
def Down (lt : Nat → Nat → Bool) (p : Array Nat) (k : Nat) : Prop := ∀ i j, i < j → j < k → lt (p.getD i 0) (p.getD j 0) = false
def Alike (lt : Nat → Nat → Bool) (p : Array Nat) (a b : Nat) : Prop := ∀ i j, a ≤ i → i < b → a ≤ j → j < b → lt (p.getD i 0) (p.getD j 0) = false
structure Ix (n : Nat) (p : Array Nat) : Prop where
  sz : p.size = n
  pm : p.toList.Perm (List.range n)
def Asks (n : Nat) (lt : Nat → Nat → Bool) (S : Shared → Prop) (cmp : Nat → Nat → (Bool → Shared → Prop) → Shared → Prop) : Prop :=
  ∀ i j C s, i < n → j < n → S s → (∀ s', S s' → C (lt i j) s') → cmp i j C s
variable (w : Swo lt) (ha : Asks n lt S cmp)
include w ha
end
end L2

namespace L2
open PySem PySem.Spec PyProof.Rows PySem.W
section
variable {X : Cx} {pins : List (Addr × Obj)} {σ : St} {H H' : Hp} {s : Shared} {a : Addr}
end
def ltS (a b : Str) : Bool := decide (a.cps.toList < b.cps.toList)
def ltIS (a b : Int × Str) : Bool := decide (a.1 < b.1) || (decide (a.1 = b.1) && ltS a.2 b.2)
section
variable {prog : Program} {w : World} {A : Around} {E : Value → Shared → Prop} {s : Shared}
end
end L2

namespace L2
open PySem PySem.Spec PyProof.Rows PySem.W
def KeyRun (sp : Sp) (kf : V → Int × Str) (H : Hp) (xs : List V) : Prop := ∀ v ∈ xs, ∀ H', Same H H' → sp [v] H' (fun y H2 => Same H' H2 ∧ Dv H2 y (.tuple [.int (kf v).1, .str (kf v).2])) E0
def InOrder {α : Type} (lt : α → α → Bool) (kf : V → α) (ys xs : List V) : Prop := ys.Perm xs ∧ ys.Pairwise fun x y => lt (kf y) (kf x) = false
section
variable {X : Cx} {pins : List (Addr × Obj)} {σ : St} {H : Hp} {s : Shared} {k : Nat} {f : Addr} {fd : FuncData} {ps : List Str} {sp : Sp} {kf : V → Int × Str} {A : Around}
structure Keys (X : Cx) (pins : List (Addr × Obj)) (σ : St) (H : Hp) (kf : V → Int × Str) (a kS : Addr) (oa : Obj) (xs : List V) (s' : Shared) : Prop where
  mk ::
  ex : ∃ H' us e ys, Inv X pins σ H' s' ∧ Same H H' ∧ H' a = none ∧ H' kS = none ∧ s'.heap.get? a = some oa ∧ s'.heap.get? kS = some (seqObj "list" (List.toArray us) e) ∧ Vals ys us ∧ Dvs H' ys (xs.map fun v => .tuple [.int (kf v).1, .str (kf v).2])
def SortFin (X : Cx) (pins : List (Addr × Obj)) (σ : St) (H : Hp) {α : Type} (lt : α → α → Bool) (kf : V → α) (xs : List V) (Q : VK) : Prop :=
  ∀ a ys H', Same H H' → H a = none → H' a = none → InOrder lt kf ys xs → Q (.ref a) (upd H' a (.lst ys))
end
end L2

namespace L2
open PySem PySem.Spec PyProof.Rows PySem.W
section
variable {X : Cx} {pins : List (Addr × Obj)} {σ : St} {H : Hp} {s : Shared} {k : Nat} {f : Addr} {fd : FuncData} {ps : List Str} {sp : Sp} {kf : V → Int × Str} {A : Around}
end
end L2

namespace L2
open PySem PySem.Spec PyProof.Rows PySem.W
def SortKP (sp : Sp) (K : PySem.W.Frag) (vs : List V) (H : Hp) (Q : VK) : Prop := ∃ a xs kf, vs = [.ref a] ∧ SqL K H a xs ∧ xs.length < 64 ∧ KeyRun sp kf H xs ∧ ∀ l ys H', Same H H' → H l = none → H' l = none → InOrder ltIS kf ys xs → Q (.ref l) (upd H' l (.lst ys))
def tSortK (K : PySem.W.Frag) (sp : Sp) (t : TA) : TE := fun σ H Q => t σ H fun vs H1 => SortKP sp K vs H1 Q
section
variable {X : Cx} {k : Nat} {f : Addr} {ps : List Str} {sp : Sp} {e : Expr} {t : TA} {x : Str} {p p2 pos kpos : Pos}
end
end L2

namespace L2
open PySem PySem.Spec PyProof.Rows
theorem closure_ok {scope : Scope} {env : Env} (h : ∀ x ∈ scope.names, x.2 = .free → ∃ c, env.cells.lookup x.1 = some c) :
    ∃ cl, closureFor scope env = pure cl ∧ (∀ x c, cl.lookup x = some c → env.cells.lookup x = some c) ∧ ∀ x ∈ scope.names, x.2 = .free → ∃ c, cl.lookup x.1 = some c := by
  have key : ∀ (l : List (Str × NameKind)) (acc : List (Str × Addr)), (∀ x ∈ l, x.2 = .free → ∃ c, env.cells.lookup x.1 = some c) → (∀ x c, acc.lookup x = some c → env.cells.lookup x = some c) →
      ∃ cl, (forIn l acc (fun (x : Str × NameKind) (r : List (Str × Addr)) => (match x with
        | (name, kind) => if (kind == NameKind.free) = true then (do let c ← cellOf env name; pure (ForInStep.yield ((name, c) :: r))) else pure (ForInStep.yield r) : Sem (ForInStep (List (Str × Addr))))) : Sem _) = pure cl ∧
        (∀ x c, cl.lookup x = some c → env.cells.lookup x = some c) ∧ (∀ x ∈ l, x.2 = .free → ∃ c, cl.lookup x.1 = some c) ∧ ∀ x, (∃ c, acc.lookup x = some c) → ∃ c, cl.lookup x = some c := by
    intro l
    induction l with
    | nil => intro acc _ ha; exact ⟨acc, rfl, ha, fun _ z => (nomatch z), fun _ z => z⟩
    | cons p r ih =>
      intro acc hl ha
      obtain ⟨n, k⟩ := p
      rw [List.forIn_cons]
      by_cases hk : k = .free
      · subst hk
        obtain ⟨c, hc⟩ := hl (n, .free) List.mem_cons_self rfl
        have hcell : cellOf env n = pure c := by unfold cellOf; rw [hc]
        obtain ⟨cl, e, h1, h2, h3⟩ := ih ((n, c) :: acc) (fun x hx => hl x (List.mem_cons_of_mem _ hx)) (fun x d hd => by
          rw [List.lookup_cons] at hd
          by_cases hx : x = n
          · subst hx; rw [beq_self_eq_true] at hd; cases hd; exact hc
          · rw [beq_eq_false_iff_ne.mpr hx] at hd; exact ha x d hd)
        refine ⟨cl, ?_, h1, fun x hx hf => ?_, fun x ⟨d, hd⟩ => h3 x ?_⟩
        · simp only [beq_self_eq_true, if_true, hcell]
          exact e
        · rcases List.mem_cons.mp hx with rfl | hx
          · exact h3 n ⟨c, by rw [List.lookup_cons, beq_self_eq_true]⟩
          · exact h2 x hx hf
        · rw [List.lookup_cons]
          by_cases hx : x = n
          · subst hx; rw [beq_self_eq_true]; exact ⟨c, rfl⟩
          · rw [beq_eq_false_iff_ne.mpr hx]; exact ⟨d, hd⟩
      · obtain ⟨cl, e, h1, h2, h3⟩ := ih acc (fun x hx => hl x (List.mem_cons_of_mem _ hx)) ha
        refine ⟨cl, ?_, h1, fun x hx hf => ?_, h3⟩
        · have : (k == NameKind.free) = false := by simpa using hk
          simp only [this, Bool.false_eq_true, if_false]
          exact e
        · rcases List.mem_cons.mp hx with rfl | hx
          · exact absurd hf hk
          · exact h2 x hx hf
  obtain ⟨cl, e, h1, h2, _⟩ := key scope.names [] h (fun _ _ z => by simp at z)
  refine ⟨cl, ?_, h1, h2⟩
  unfold closureFor
  show (forIn scope.names [] _ >>= fun cs => pure cs) = _
  refine Eq.trans (congrArg (· >>= _) e) rfl
end L2
namespace L2
open PySem PySem.Spec PyProof.Rows
theorem relabel_look {env : Env} {scope : Scope} {x : Str} : (relabel scope env).names.lookup x = (scope.names.lookup x).map fun k => if (k == NameKind.free && env.scope.kind == .function && env.kindOf x == some .cell) = true then .cell else k := by
  unfold relabel
  show List.lookup x (List.map _ scope.names) = _
  generalize scope.names = l
  induction l with
  | nil => rfl
  | cons p r ih =>
    obtain ⟨n, k⟩ := p
    rw [List.map_cons]
    dsimp only
    by_cases hx : x = n
    · subst hx
      by_cases hc : (k == NameKind.free && env.scope.kind == .function && env.kindOf x == some .cell) = true
      · rw [if_pos hc, List.lookup_cons, List.lookup_cons, beq_self_eq_true]; simp only [Option.map_some, if_pos hc]
      · rw [if_neg hc, List.lookup_cons, List.lookup_cons, beq_self_eq_true]; simp only [Option.map_some, if_neg hc]
    · have hb : (x == n) = false := beq_eq_false_iff_ne.mpr hx
      by_cases hc : (k == NameKind.free && env.scope.kind == .function && env.kindOf n == some .cell) = true
      · rw [if_pos hc, List.lookup_cons, List.lookup_cons, hb]; exact ih
      · rw [if_neg hc, List.lookup_cons, List.lookup_cons, hb]; exact ih
theorem mem_lookup {α : Type} {x : Str} {k : α} : ∀ {l : List (Str × α)}, l.lookup x = some k → (x, k) ∈ l
  | [], h => by simp at h
  | (n, j) :: r, h => by
    rw [List.lookup_cons] at h
    by_cases hx : x = n
    · subst hx; rw [beq_self_eq_true] at h; cases h; exact List.mem_cons_self
    · rw [beq_eq_false_iff_ne.mpr hx] at h; exact List.mem_cons_of_mem _ (mem_lookup h)
def cxLC (X : Cx) (N : List Str) (scope : Scope) (cl : List (Str × Addr)) (C : Addr) (s : Shared) (H : Hp) (fp : List Addr) : Cx :=
  { X with N := N, s₀ := s, H₀ := H, env := compEnvC scope cl C X.env, outer := X.stack, stack := X.stack, ex := fp, fn := fun _ => false, pn := [], xe := fun _ _ => False }
structure LCNames (X : Cx) (T M : List Str) (scope : Scope) : Prop where
  kind : scope.kind = .function
  cell : ∀ y ∈ scope.names, y.2 ≠ .cell
  names : ∀ y ∈ scope.names, y.2 = .local → scope.names.lookup y.1 = some .local
  free : ∀ y ∈ scope.names, y.2 = .free → X.env.scope.names.lookup y.1 = some .cell ∨ X.env.scope.names.lookup y.1 = some .free
  len : M.length = X.N.length
  old : ∀ (i : Nat) x, M[i]? = some x → X.N[i]? = some x ∧ scope.names.lookup x = some .free ∨ scope.names.lookup x = none
section
variable {X : Cx} {pins : List (Addr × Obj)} {σ : St} {H : Hp} {s : Shared} {T M : List Str} {scope : Scope} {cl : List (Str × Addr)} {fp : List Addr}
theorem lc_ok {C : Addr} (I : Inv X pins σ H s) (hN : LCNames X T M scope) (h1 : ∀ x c, cl.lookup x = some c → X.env.cells.lookup x = some c) (h2 : ∀ x ∈ scope.names, x.2 = .free → ∃ c, cl.lookup x.1 = some c)
    (hC : s.heap.objs.size ≤ C) (hf : ∀ b ∈ fp, FpOk X pins H b) (hfe : ∀ b ∈ fp, b < s.heap.objs.size) : (cxLC X (T ++ M) scope cl C s H fp).Ok where
  mod := I.ok.mod
  kind := hN.kind
  glob := I.ok.glob
  blt := I.ok.blt
  above := hC
  inj := fun x y c e1 e2 => I.ok.inj x y c (h1 x c e1) (h1 y c e2)
  has := fun x hx => by
    have hx' : (relabel scope X.env).names.lookup x = some .cell ∨ (relabel scope X.env).names.lookup x = some .free := hx
    rw [relabel_look] at hx'
    cases e : scope.names.lookup x with
    | none => rw [e] at hx'; simp at hx'
    | some k =>
      have hm := mem_lookup e
      have hk : k = .free := by
        rw [e] at hx'
        simp only [Option.map_some, Option.some.injEq] at hx'
        by_cases hf : k = .free
        · exact hf
        · have : (k == NameKind.free) = false := by simpa using hf
          simp only [this, Bool.false_and, Bool.false_eq_true, if_false] at hx'
          rcases hx' with hx' | hx'
          · exact absurd hx' (hN.cell _ hm)
          · exact hx'
      exact h2 (x, k) hm hk
  cab := fun _ _ z => by cases z
  hd := I.ok.hd
  frames := I.ok.frames
  stk := .inl rfl
  exf := fun b hb => ⟨Nat.ne_of_lt (Nat.lt_of_lt_of_le (hfe b hb) hC), fun x c e => (hf b hb).2.2.2.2.1 x c (h1 x c e)⟩
  bs := I.bs
  bsz := Nat.le_trans I.ok.bsz I.sz
  noex := fun b o e hb => by
    rcases (hf b hb).2.2.2.1 with z | z
    · exact I.ok.noex b o e z
    · exact absurd (Nat.lt_of_lt_of_le (Heap.lt_size e) (Nat.le_trans I.ok.bsz z)) (Nat.lt_irrefl _)
  exfs := fun b hb z => by
    rcases List.mem_cons.mp (I.stkSub b z) with e | e
    · exact (hf b hb).2.1 e
    · exact (hf b hb).2.2.1 e
  funs := I.stack
  frf := I.stkFree
theorem lc_start {C : Addr} {h₁ : Heap} {tk : Nat} (I : Inv X pins σ H s) (hN : LCNames X T M scope) (h1 : ∀ x c, cl.lookup x = some c → X.env.cells.lookup x = some c) (h2 : ∀ x ∈ scope.names, x.2 = .free → ∃ c, cl.lookup x.1 = some c)
    (hC : s.heap.objs.size ≤ C) (hf : ∀ b ∈ fp, FpOk X pins H b) (hfe : ∀ b ∈ fp, b < s.heap.objs.size)
    {m : Str → Option Value} (hn : h₁.Ns C m) (old : ∀ b o, s.heap.get? b = some o → h₁.get? b = some o) :
    Inv (cxLC X (T ++ M) scope cl C s H fp) [] (List.replicate T.length none ++ σ) H { s with heap := h₁, toks := tk } where
  ok := lc_ok I hN h1 h2 hC hf hfe
  os := rfl
  bare := I.bare
  base := Un.kept old
  loc := by
    refine ⟨m, hn, fun i x v e1 e2 e3 => ?_⟩
    have e1' : (T ++ M)[i]? = some x := e1
    by_cases hi : i < T.length
    · rw [List.getElem?_append_left (by simpa using hi), List.getElem?_replicate, if_pos hi] at e2
      cases e2
    · have hi' : T.length ≤ i := Nat.le_of_not_lt hi
      rw [List.getElem?_append_right hi'] at e1'
      rw [List.getElem?_append_right (by simpa using hi'), List.length_replicate] at e2
      have vis : Vis (relabel scope X.env) x := e3
      rcases hN.old _ x e1' with ⟨hx, hfr⟩ | hno
      · obtain ⟨m0, hn0, hl0⟩ := I.loc
        have hk := hN.free _ (mem_lookup hfr) rfl
        have hk' : X.env.scope.names.lookup x = some .cell ∨ X.env.scope.names.lookup x = some .free := hk
        obtain ⟨u, r, l⟩ := hl0 _ x v hx e2 (.inr hk')
        refine ⟨u, r, .inr ?_⟩
        rcases l with ⟨z, _⟩ | ⟨_, c, hc, hcell⟩
        · have z' : X.env.scope.names.lookup x = some .local := z
          rw [z'] at hk'; rcases hk' with q | q <;> cases q
        · obtain ⟨c', hc'⟩ := h2 _ (mem_lookup hfr) rfl
          have : c' = c := by have := h1 _ _ hc'; rw [hc] at this; exact (Option.some.inj this).symm
          subst this
          refine ⟨?_, c', hc', ?_⟩
          · show (relabel scope X.env).names.lookup x = some .cell ∨ (relabel scope X.env).names.lookup x = some .free
            rw [relabel_look, hfr]
            simp only [Option.map_some, Option.some.injEq]
            by_cases hc : (NameKind.free == NameKind.free && X.env.scope.kind == .function && X.env.kindOf x == some .cell) = true
            · left; rw [if_pos hc]
            · right; rw [if_neg hc]
          · obtain ⟨o, ho, hd⟩ := hcell
            exact ⟨o, old _ _ ho, hd⟩
      · unfold Vis at vis
        rw [relabel_look, hno] at vis
        simp at vis
  cell := fun x c e => by
    obtain ⟨v, o, ho, hd⟩ := I.cell x c (h1 x c e)
    exact ⟨v, o, old _ _ ho, hd⟩
  free := I.hok.fresh hC
  freeC := fun x c e => I.freeC x c (h1 x c e)
  pin := fun p hp => nomatch hp
  hok := I.hok.kept old
  len := by
    show (List.replicate T.length none ++ σ).length = (T ++ M).length
    rw [List.length_append, List.length_append, List.length_replicate, hN.len, I.len]
theorem lc_back {C D : Addr} {s' : Shared} {σ' : St} {H' : Hp} {acc : List V} {its : List Value} {n : Nat} (I : Inv X pins σ H s) (I' : Inv (cxLC X (T ++ M) scope cl C s H fp) [] σ' H' s')
    (hf : ∀ b ∈ fp, FpOk X pins H b) (hD : s.heap.objs.size ≤ D) (hn : H' D = none) (hl : acc.length ≤ sizeLine) (r : Vals acc its) (hd : s'.heap.get? D = some { cls := .type "list", data := .seq its.toArray n }) :
    Inv X pins σ (upd H' D (.lst acc)) s' := by
  have U : Un (frs X.stack) fp H H' s.heap s'.heap := I'.base
  have neD : ∀ b o, s.heap.get? b = some o → b ≠ D := fun b o e => Nat.ne_of_lt (Nat.lt_of_lt_of_le (Heap.lt_size e) hD)
  have neT : ∀ b u, H' b = some u → b ≠ D := fun b u e => ne_of_none e hn
  refine I.call' (ch := fp) I'.os ⟨U.keep, U.slot, fun b o e1 e2 e3 => ?_, U.there, fun b xs e => ?_, fun b o u e => ?_, fun b ps e => ?_⟩ (fun b u e => ?_) I'.bare (fun b hb => ⟨(hf b hb).2.2.2.1, (hf b hb).2.1, (hf b hb).2.2.2.2.1, (hf b hb).2.2.2.2.2⟩)
  · rw [upd_ne (neD b o e1)]; exact U.free b o e1 e2 e3
  · rw [upd_ne (neT b _ (U.tups b xs e))]; exact U.tups b xs e
  · rw [upd_ne (neT b _ (U.frzs b o u e))]; exact U.frzs b o u e
  · obtain ⟨more, q⟩ := U.tbls b ps e
    exact ⟨more, by rw [upd_ne (neT b _ q)]; exact q⟩
  · by_cases hb : b = D
    · subst hb
      rw [upd_same] at e
      cases e
      exact ⟨hl, its, n, r, hd⟩
    · rw [upd_ne hb] at e
      exact (I'.hok b u e).stay (fun c v _ q => q) (fun c q => by rw [upd_ne (neT c _ q)]; exact q) fun c xs q => by rw [upd_ne (neT c _ q)]; exact q
end
end L2

namespace L2
open PySem PySem.Spec PyProof.Rows
theorem codeAny_lc {prog : Program} {w : World} {A : Around} {R : Result → Shared → Prop} {s : Shared} {elt target iter : Expr} {ifs : List Expr} {scope : Scope} {pos : Pos} {it acc : Value} {env : Env} (I : Nat → Shared → Prop)
    (turn : ∀ n s, I n s → wpAny (model prog w) A (pyNext it) (fun r s₁ => match r with
      | none => R (.ok .next) s₁
      | some v => wpAny (model prog w) A (letOwnedTupleGo target it v) (fun _ s₁' => wpAny (model prog w) A (assign target env v) (fun _ s₂ =>
          wpAny (model prog w) A (forIn ifs true fun c r => if r = true then do let ok ← isTrue c env (eval c env); pure (ForInStep.yield ok) else pure (ForInStep.yield r)) (fun ok s₃ =>
            if ok = true then wpAny (model prog w) A (eval elt env) (fun x s₄ =>
              wpAny (model prog w) A (call (.builtin "list.append") [acc, x]) (fun _ s₅ => ∃ m, m < n ∧ I m s₅) (fun _ _ => False) s₄) (fun _ _ => False) s₃
            else ∃ m, m < n ∧ I m s₃) (fun _ _ => False) s₂) (fun _ _ => False) s₁') (fun _ _ => False) s₁) (fun _ _ => False) s)
    (n : Nat) (h : I n s) :
    codeAny (model prog w) A (.compLoop (.ListComp elt [⟨target, iter, ifs, 0⟩] scope pos) 0 it acc env) R s := by
  refine codeAny_loop rfl I (fun n s hI => ?_) n h
  show wpAny _ A ((compTurn (.ListComp elt [⟨target, iter, ifs, 0⟩] scope pos) 0 it acc env).onRaise (fun x => do noteFrame x env; theTreesLotGoes x)) _ _ s
  refine wpAny_noted ?_
  rw [compTurn_list]
  refine wpAny_bind (wpAny_standAt (wpAny_bind (wpAny_mono (turn n s hI) (fun r s₁ h₁ => ?_) fun _ _ h' => h'.elim)))
  cases r with
  | none => exact wpAny_pure h₁
  | some v =>
    refine wpAny_bind (wpAny_mono h₁ (fun _ s₁' h₁' => ?_) fun _ _ h' => h'.elim)
    refine wpAny_bind (wpAny_mono h₁' (fun _ s₂ h₂ => wpAny_bind (wpAny_mono h₂ (fun ok s₃ h₃ => ?_) fun _ _ h' => h'.elim)) fun _ _ h' => h'.elim)
    cases ok with
    | false => exact wpAny_pure ⟨rfl, h₃⟩
    | true =>
      exact wpAny_bind (wpAny_bind (wpAny_mono h₃ (fun x s₄ h₄ => wpAny_bind (wpAny_mono h₄ (fun _ s₅ h₅ => wpAny_pure (wpAny_pure ⟨rfl, h₅⟩)) fun _ _ h' => h'.elim)) fun _ _ h' => h'.elim))
def PIf (X : Cx) (ifs : List Expr) (t : TT) : Prop :=
  ∀ (pins : List (Addr × Obj)) (s : Shared) (σ : St) (H : Hp) (Q : Bool → Hp → Prop), Inv X pins σ H s → t σ H Q →
    wpAny (model X.prog X.w) X.A (forIn ifs true fun c r => if r = true then do let ok ← isTrue c X.env (eval c X.env); pure (ForInStep.yield ok) else pure (ForInStep.yield r)) (TP X pins σ Q) X.xe s
def tYes : TT := fun _ H Q => Q true H
theorem pif_nil {X : Cx} : PIf X [] tYes := fun _ _ _ H _ I h => wpAny_tests_nil ⟨H, I, h⟩
def LCW (k : Nat) (g : TG) (tc : TT) (te : TE) (Fin : List V → Hp → Prop) (σ : St) (J : It) (H1 : Hp) : Prop :=
  ∃ W : Nat → Nat → List V → Hp → Prop, (∃ m, W 0 m [] H1) ∧ ∀ i m acc H, W i m acc H →
    (J.stop i H ∧ Fin acc H) ∨ (J.go i H ∧ acc.length < sizeLine ∧ ∀ x H', J.yld i H x H' → g x (List.replicate k none ++ σ) H' fun σ2 H2 => tc σ2 H2 fun b H3 =>
      if b = true then te σ2 H3 fun y H4 => ∃ m', m' < m ∧ W (i + 1) m' (acc ++ [y]) H4 else ∃ m', m' < m ∧ W (i + 1) m' acc H3)
section
variable {X : Cx} {pins : List (Addr × Obj)} {σ : St} {H : Hp} {s : Shared} {T M : List Str} {scope : Scope} {cl : List (Str × Addr)} {fp : List Addr} {g : TG} {tc : TT} {te : TE} {tg elt iter : Expr} {ifs : List Expr} {pos : Pos}
theorem Inv.forget {X : Cx} {pins : List (Addr × Obj)} {σ σ' : St} {H : Hp} {s : Shared} (I : Inv X pins σ' H s) (k : Nat) (hk : k + σ.length = σ'.length) (h : σ'.drop k = σ) : Inv X pins (List.replicate k none ++ σ) H s := by
  refine I.weak (by simp [hk]) (fun i v e => ?_)
  by_cases hi : i < k
  · rw [List.getElem?_append_left (by simpa using hi), List.getElem?_replicate, if_pos hi] at e; cases e
  · rw [List.getElem?_append_right (by simpa using hi), List.length_replicate, ← h, List.getElem?_drop] at e
    have : k + (i - k) = i := by omega
    rw [this] at e; exact e
theorem lc_run {it : Addr} {tn : Nat → Heap → Prop} {J : It} {RR : Value → Addr → Result → Shared → Prop} {Fin : List V → Hp → Prop} {E : Value → Shared → Prop}
    (hN : LCNames X T M scope) (hcalm : X.calm = true) (h1 : ∀ x c, cl.lookup x = some c → X.env.cells.lookup x = some c) (h2 : ∀ x ∈ scope.names, x.2 = .free → ∃ c, cl.lookup x.1 = some c)
    (hg : ∀ cl C s H fp, PG (cxLC X (T ++ M) scope cl C s H fp) tg g) (hgk : ∀ v H Q, g v (List.replicate T.length none ++ σ) H Q → g v (List.replicate T.length none ++ σ) H fun σ2 H2 => Q σ2 H2 ∧ T.length + σ.length = σ2.length ∧ σ2.drop T.length = σ)
    (hc : ∀ cl C s H fp, PIf (cxLC X (T ++ M) scope cl C s H fp) ifs tc) (he : ∀ cl C s H fp, PE (cxLC X (T ++ M) scope cl C s H fp) elt te)
    (I : Inv X pins σ H s) (Tn : Turn X.prog X.w X.K tg J fp it tn) (st : tn 0 s.heap) (hf : ∀ b ∈ fp, FpOk X pins H b) (hW : LCW T.length g tc te Fin σ J H)
    (hR : ∀ D C s' H' acc m, s.heap.objs.size ≤ D → s.heap.objs.size ≤ C → C ≠ D → s'.heap.Ns C m → H' C = none → H' D = none → Inv X pins σ (upd H' D (.lst acc)) s' → Fin acc H' → RR (.ref D) C (.ok .next) s') :
    wpAny (model X.prog X.w) X.A (newList []) (fun acc s₃ => wpAny (model X.prog X.w) X.A (newFunctionEnv scope X.env.globals cl [] X.env.qual none .none (some X.env)) (fun cenv s₄ =>
      codeAny (model X.prog X.w) X.A (.compStart (.ListComp elt [⟨tg, iter, ifs, 0⟩] scope pos) 0 (.ref it) acc { cenv with scope := relabel scope X.env }) (RR acc cenv.locals) s₄) E s₃) E s := by
  refine wpAny_newObj_type (wpAny_newFunctionEnv hN.cell (by intro y hy; simp at hy) (fun h₁ hns₁ hsb₁ => ?_) hN.kind)
  dsimp only at hns₁ hsb₁ ⊢
  generalize hH2 : s.heap.push { cls := .type "list", dict := none, data := .seq ([] : List Value).toArray } = H2 at hns₁ hsb₁ ⊢
  have hC : H2.objs.size = s.heap.objs.size + 1 := by rw [← hH2, Heap.size_push]
  have hDC : s.heap.objs.size ≠ H2.objs.size := by rw [hC]; exact Nat.ne_of_lt (Nat.lt_succ_self _)
  have hCle : s.heap.objs.size ≤ H2.objs.size := by rw [hC]; exact Nat.le_succ _
  have hfe : ∀ b ∈ fp, b < s.heap.objs.size := fun b hb => by obtain ⟨o, ho, _⟩ := Tn.obj _ _ st b hb; exact Heap.lt_size ho
  have old : ∀ b o, s.heap.get? b = some o → h₁.get? b = some o := fun b o e => hsb₁.extBut b o (Nat.ne_of_lt (Nat.lt_of_lt_of_le (Heap.lt_size e) hCle)) (Heap.get?_push_of_some _ (hH2 ▸ Heap.get?_push_of_some _ e))
  have hacc : h₁.PlainList s.heap.objs.size #[] := ⟨_, hsb₁.extBut _ _ hDC (Heap.get?_push_of_some _ (hH2 ▸ Heap.get?_push_size _ rfl))⟩
  generalize hDe : s.heap.objs.size = D at *
  generalize hCe : H2.objs.size = C at *
  have I0 : Inv (cxLC X (T ++ M) scope cl C s H fp) [] (List.replicate T.length none ++ σ) H { s with heap := h₁, toks := s.toks + ([] : List (Str × Value)).length } :=
    lc_start I hN h1 h2 (by rw [hDe]; exact hCle) hf (by rw [hDe]; exact hfe) hns₁ old
  have st0 : tn 0 h₁ := Tn.keep _ _ _ st fun b _ o e => old b o e
  obtain ⟨W, ⟨m0, w0⟩, turn⟩ := hW
  have nDf : ∀ b ∈ fp, b ≠ D := fun b hb => Nat.ne_of_lt (hfe b hb)
  have stat : ∀ {H' : Hp} {pl : List (Addr × Obj)}, (∀ b ∈ fp, H' b = none) → (∀ p ∈ pl, p.1 = D) → ∀ b ∈ fp, FpOk (cxLC X (T ++ M) scope cl C s H fp) pl H' b := fun {H' pl} hn hp b hb => by
    have ok := I0.ok
    refine ⟨hn b hb, (ok.exf b hb).1, ok.exfs b hb, .inl hb, (ok.exf b hb).2, fun p hq => ?_⟩
    have hq' : p ∈ pl := hq
    rw [hp p hq']; exact Ne.symm (nDf b hb)
  have loop : codeAny (model X.prog X.w) X.A (.compLoop (.ListComp elt [⟨tg, iter, ifs, 0⟩] scope pos) 0 (.ref it) (.ref D) (compEnvC scope cl C X.env)) (RR (.ref D) C) { s with heap := h₁, toks := s.toks + ([] : List (Str × Value)).length } := by
    refine codeAny_lc (fun n s' => ∃ i acc H' its, Inv (cxLC X (T ++ M) scope cl C s H fp) [] (List.replicate T.length none ++ σ) H' s' ∧ tn i s'.heap ∧ (∀ b ∈ fp, H' b = none) ∧ s'.heap.PlainList D its ∧ H' D = none ∧ Vals acc its.toList ∧ acc.length ≤ sizeLine ∧ W i n acc H') ?_ m0
      ⟨0, [], H, #[], I0, st0, fun b hb => (hf b hb).1, hacc, I.hok.fresh (by rw [hDe]; exact Nat.le_refl _), .nil, Nat.zero_le _, w0⟩
    rintro n s3 ⟨i, acc, H3, its, I3, st3, fr3, ⟨nn, ho⟩, hD3, hv, hlen, w3⟩
    have pinD : ∀ {H'} {s'} {σ'} {o : Obj}, Inv (cxLC X (T ++ M) scope cl C s H fp) [] σ' H' s' → s'.heap.get? D = some o → (∀ v, o.data ≠ .cell v) → H' D = none → Inv (cxLC X (T ++ M) scope cl C s H fp) [(D, o)] σ' H' s' := fun {H' s' σ' o} I' e d hn => by
      refine I'.pins_of fun p hp => ?_
      have e' : p = (D, o) := by simpa using hp
      subst e'
      refine ⟨e, hn, hDC, fun z => ?_, d⟩
      have z' : D ∈ frs X.stack := z
      obtain ⟨_, o', ho', _⟩ := I.stack.mem z'
      exact absurd (Heap.lt_size ho') (by rw [hDe]; exact Nat.lt_irrefl _)
    have I3' := pinD I3 ho (fun v z => by cases z) hD3
    rcases turn i n acc H3 w3 with ⟨stop, fin⟩ | ⟨go, hl, step⟩
    · refine thn (Tn.done (cxLC X (T ++ M) scope cl C s H fp) rfl rfl rfl hcalm i _ s3 _ H3 _ I3' (stat fr3 (by simp)) st3 stop) fun r s4 ⟨hr, I4⟩ => ?_
      subst hr
      have e4 := (I4.pin (D, _) (List.mem_append_right _ List.mem_cons_self)).1
      have I4' : Inv (cxLC X (T ++ M) scope cl C s H fp) [] (List.replicate T.length none ++ σ) H3 s4 := I4.pins_of fun p hp => nomatch hp
      obtain ⟨m4, n4, _⟩ := I4'.loc
      exact hR D C s4 H3 acc m4 (Nat.le_refl _) hCle (Ne.symm hDC) n4 I4'.free hD3 (lc_back I I4' hf (by rw [hDe]; exact Nat.le_refl _) hD3 hlen hv (by simpa using e4)) fin
    · refine thn (Tn.item (cxLC X (T ++ M) scope cl C s H fp) rfl rfl rfl hcalm i _ s3 _ H3 _ I3' (stat fr3 (by simp)) st3 go) fun r s4 ⟨u, hr, h4⟩ => ?_
      subst hr
      refine thn h4 fun _ s5 ⟨x, H5, I5, r5, y5, st5, fr5⟩ => ?_
      have I5' := I5.pinned (stat fr5 (by simp)) (Tn.obj _ _ st5)
      refine thn (hg _ _ _ _ _ _ s5 _ H5 x u _ I5' r5 (hgk _ _ _ (step x H5 y5))) fun _ s6 ⟨σ6, H6, I6, q6, q6a, q6b⟩ => ?_
      refine thn (hc _ _ _ _ _ _ s6 σ6 H6 _ I6 q6) fun b s7 ⟨H7, I7, q7⟩ => ?_
      have rest : ∀ {s8 : Shared} {H8 : Hp}, Inv (cxLC X (T ++ M) scope cl C s H fp) ([(D, _)] ++ pinsAt fp s5.heap) σ6 H8 s8 → tn (i + 1) s8.heap ∧ (∀ b ∈ fp, H8 b = none) ∧ s8.heap.PlainList D its ∧ H8 D = none ∧ Inv (cxLC X (T ++ M) scope cl C s H fp) [] (List.replicate T.length none ++ σ) H8 s8 := fun {s8 H8} I8 => by
        refine ⟨Tn.keep _ _ _ st5 fun b hb o e => (I8.pin (b, o) (List.mem_append_right _ (List.mem_append_right _ (mem_pinsAt hb e)))).1, fun b hb => ?_, ⟨nn, (I8.pin (D, _) (List.mem_append_right _ (List.mem_append_left _ List.mem_cons_self))).1⟩, (I8.pin (D, _) (List.mem_append_right _ (List.mem_append_left _ List.mem_cons_self))).2.1, (I8.forget T.length q6a q6b).pins_of fun p hp => nomatch hp⟩
        obtain ⟨o, e, d⟩ := Tn.obj _ _ st5 b hb
        exact (I8.pin (b, o) (List.mem_append_right _ (List.mem_append_right _ (mem_pinsAt hb e)))).2.1
      cases b with
      | false =>
        obtain ⟨m', hm, w7⟩ := q7
        obtain ⟨a1, a2, a3, a4, a5⟩ := rest I7
        exact ⟨m', hm, i + 1, acc, H7, its, a5, a1, a2, a3, a4, hv, hlen, w7⟩
      | true =>
        refine thn (he _ _ _ _ _ _ s7 σ6 H7 _ I7 q7) fun y s8 ⟨yv, H8, I8, r8, m', hm, w8⟩ => ?_
        obtain ⟨a1, a2, a3, a4, a5⟩ := rest I8
        have hsz : its.size ≤ sizeLine := by have := hv.length; simp at this; omega
        refine wpAny_list_append_plain (hsz := hsz) a3 fun h9 hl9 hs9 => ?_
        refine ⟨m', hm, i + 1, acc ++ [yv], H8, its.push y, ?_, ?_, a2, hl9, a4, ?_, by simp; omega, w8⟩
        · exact a5.turned (t' := s8.toks) (it := D) (fun b o hb e => (hs9.2 b hb).trans e) a4 hDC (.inr (by show s.heap.objs.size ≤ D; rw [hDe]; exact Nat.le_refl _)) (fun x c e z => by
            obtain ⟨v, o, ho, _⟩ := I.cell x c (h1 x c e)
            exact absurd (Heap.lt_size ho) (by rw [hDe, z]; exact Nat.lt_irrefl _)) (fun p hp => nomatch hp)
        · exact Tn.keep _ _ _ a1 fun b hb o e => (hs9.2 b (nDf b hb)).trans e
        · simpa using Vals.append hv (.cons r8 .nil)
  exact codeAny_compStart_list loop (Tn.self _ _ _ _ _ st0 loop)
end
end L2

namespace L2
open PySem PySem.Spec PyProof.Rows
def GOwn (k : Nat) (g : TG) : Prop := ∀ v (τ σ : St) H Q, τ.length = k → g v (τ ++ σ) H Q → g v (τ ++ σ) H fun σ2 H2 => Q σ2 H2 ∧ ∃ τ', τ'.length = k ∧ σ2 = τ' ++ σ
def GsOwn (k : Nat) (g : TGs) : Prop := ∀ vs (τ σ : St) H Q, τ.length = k → g vs (τ ++ σ) H Q → g vs (τ ++ σ) H fun σ2 H2 => Q σ2 H2 ∧ ∃ τ', τ'.length = k ∧ σ2 = τ' ++ σ
theorem gown_name {k i : Nat} (h : i < k) : GOwn k (gName i) := fun v τ σ H Q hl q => by
  have e : (τ ++ σ).set i (some v) = τ.set i (some v) ++ σ := List.set_append_left _ _ (by omega)
  exact ⟨q, τ.set i (some v), by simp [hl], e⟩
def LCFin (Q : VK) (acc : List V) (H : Hp) : Prop := ∀ p, H p = none → Q (.ref p) (upd H p (.lst acc))
def tLC (k : Nat) (wi : TI) (g : TG) (tc : TT) (te : TE) : TE := fun σ H Q => wi σ H fun J H1 => LCW k g tc te (LCFin Q) σ J H1
section
variable {X : Cx} {T M : List Str} {scope : Scope} {g : TG} {tc : TT} {te : TE} {wi : TI} {tg elt iter : Expr} {ifs : List Expr} {pos : Pos}
theorem pe_lc (hN : LCNames X T M scope) (hcalm : X.calm = true) (hi : PI X tg iter wi) (hg : ∀ cl C s H fp, PG (cxLC X (T ++ M) scope cl C s H fp) tg g) (hgo : GOwn T.length g)
    (hc : ∀ cl C s H fp, PIf (cxLC X (T ++ M) scope cl C s H fp) ifs tc) (he : ∀ cl C s H fp, PE (cxLC X (T ++ M) scope cl C s H fp) elt te)
    (hs : ∀ x, foldedSetIterable iter X.env x = pure x := by intro _; rfl) : PE X (.ListComp elt [⟨tg, iter, ifs, 0⟩] scope pos) (tLC T.length wi g tc te) := by
  intro pins s σ H Q I h
  obtain ⟨cl, hcl, h1, h2⟩ := closure_ok (scope := scope) (env := X.env) fun x hx hf => I.ok.has x.1 (hN.free x hx hf)
  rw [eval_ListComp]
  refine wpAny_comprehension_free (use := none) rfl hs hcl hN.kind hN.names (thn (hi pins s σ H _ I h) fun xv s1 h1' => thn h1' fun itv s2 h2' => ?_)
  obtain ⟨it, fp, tn, J, H2, e, I2, Tn, st, hf, hW⟩ := h2'
  subst e
  refine lc_run (RR := fun acc C => compPost (model X.prog X.w) X.A X.xe none (EP X pins σ Q) acc C) hN hcalm h1 h2 hg (fun v H Q q => ?_) hc he I2 Tn st hf hW ?_
  · have := hgo v (List.replicate T.length none) σ H Q (by simp) q
    refine (by
      have e : (fun (σ2 : St) (H2 : Hp) => Q σ2 H2 ∧ T.length + σ.length = σ2.length ∧ σ2.drop T.length = σ) = fun σ2 H2 => Q σ2 H2 ∧ ∃ τ' : St, τ'.length = T.length ∧ σ2 = τ' ++ σ := by
        funext σ2 H2
        refine propext ⟨fun ⟨a, b, c⟩ => ⟨a, σ2.take T.length, by rw [List.length_take]; omega, by rw [← c, List.take_append_drop]⟩, fun ⟨a, τ', b, c⟩ => ⟨a, by rw [c, List.length_append, b], by rw [c, ← b, List.drop_left]⟩⟩
      rw [e]; exact this)
  · intro D C s' H' acc m hD hC hne hn hHC hHD Ib fin
    refine ⟨m, hn, fun h' hs' => ⟨.ref D, _, ?_, rfl, fin D hHD⟩⟩
    exact Ib.turned (t' := s'.toks) (it := C) (fun b o hb e => (hs'.2 b hb).trans e) (by rw [upd_ne hne]; exact hHC) (Nat.ne_of_gt (Nat.lt_of_lt_of_le I2.lt hC)) (.inr (Nat.le_trans I2.sz hC)) (fun x c e z => by
      obtain ⟨v, q⟩ := I2.cell x c e
      exact absurd (Nat.lt_of_lt_of_le q.lt (by rw [z]; exact hC)) (Nat.lt_irrefl _)) (fun p hp z => absurd (Nat.lt_of_lt_of_le (Heap.lt_size (I2.pin p hp).1) (by rw [z]; exact hC)) (Nat.lt_irrefl _))
end
end L2

namespace L2
open PySem PySem.Spec PyProof.Rows PySem.W
mutual
def Imm : PyData → Bool
  | .none => true
  | .bool _ => true
  | .int _ => true
  | .str _ => true
  | .tuple ds => ImmAll ds
  | .list _ => false
  | .dict _ => false
def ImmAll : List PyData → Bool
  | [] => true
  | d :: ds => Imm d && ImmAll ds
end
theorem immAll_iff : ∀ {ds : List PyData}, ImmAll ds = true ↔ ∀ d ∈ ds, Imm d = true
  | [] => by simp [ImmAll]
  | d :: ds => by simp [ImmAll, immAll_iff (ds := ds)]
theorem immAll_append {ds es : List PyData} (h1 : ImmAll ds = true) (h2 : ImmAll es = true) : ImmAll (ds ++ es) = true := by
  rw [immAll_iff] at *
  intro d hd
  rcases List.mem_append.mp hd with h | h
  · exact h1 d h
  · exact h2 d h
theorem immAll_map {α : Type} {f : α → PyData} (h : ∀ x, Imm (f x) = true) (xs : List α) : ImmAll (xs.map f) = true := by
  rw [immAll_iff]
  intro d hd
  obtain ⟨x, _, rfl⟩ := List.mem_map.mp hd
  exact h x
structure Mv (S : List Addr) (H H' : Hp) : Prop where
  kp : ∀ a o, a ∉ S → H a = some o → H' a = some o
  tp : ∀ a xs, H a = some (.tup xs) → H' a = some (.tup xs)
  dm : ∀ a, H' a = none → H a = none
theorem Same.mv {S : List Addr} {H H' : Hp} (s : Same H H') : Mv S H H' := ⟨fun a o _ h => s a o h, fun a xs h => s a _ h, fun a h => by
  cases e : H a with
  | none => rfl
  | some o => rw [s a o e] at h; cases h⟩
theorem Mv.at {S : List Addr} {H H' : Hp} {a : Addr} {o : HO} (m : Mv S H H') (n : a ∉ S) (h : H a = some o) : H' a = some o := m.kp a o n h
theorem Same.none {H H' : Hp} {a : Addr} (m : Same H H') (h : H' a = none) : H a = none := (m.mv (S := [])).dm a h
theorem Mv.of_upd {H : Hp} {p : Addr} {o u : HO} (h : H p = some u) (nt : ∀ xs, u ≠ .tup xs) : Mv [p] H (upd H p o) := ⟨fun a v n e => by
  rw [upd_ne (fun z => n (by simp [z]))]; exact e, fun a xs e => by
  rw [upd_ne (fun z => by subst z; rw [h] at e; exact nt xs (Option.some.inj e))]; exact e, fun a e => by
  by_cases z : a = p
  · subst z; rw [upd_same] at e; cases e
  · rw [upd_ne z] at e; exact e⟩
mutual
theorem Dv.imm {H H' : Hp} (t : ∀ a xs, H a = some (.tup xs) → H' a = some (.tup xs)) : ∀ {v : V} {d : PyData}, Dv H v d → Imm d = true → Dv H' v d
  | _, _, .non, _ => .non
  | _, _, .bl b, _ => .bl b
  | _, _, .int i, _ => .int i
  | _, _, .str x, _ => .str x
  | _, _, .tup h r, c => .tup (t _ _ h) (Dvs.imm t r (by simpa [Imm] using c))
  | _, _, .lst h r, c => by simp [Imm] at c
  | _, _, .dct h r, c => by simp [Imm] at c
theorem Dvs.imm {H H' : Hp} (t : ∀ a xs, H a = some (.tup xs) → H' a = some (.tup xs)) : ∀ {v : List V} {d : List PyData}, Dvs H v d → ImmAll d = true → Dvs H' v d
  | _, _, .nil, _ => .nil
  | _, _, .cons h r, c => by
    have c' := c
    simp only [ImmAll, Bool.and_eq_true] at c'
    exact .cons (Dv.imm t h c'.1) (Dvs.imm t r c'.2)
end
theorem Mv.dats {S : List Addr} {H H' : Hp} {v : List V} {d : List PyData} (m : Mv S H H') (i : ImmAll d = true) (h : Dvs H v d) : Dvs H' v d := h.imm m.tp i
def LAt (H : Hp) (p : Addr) (ds : List PyData) : Prop := ∃ xs, H p = some (.lst xs) ∧ Dvs H xs ds ∧ ImmAll ds = true
theorem LAt.dv {H : Hp} {p : Addr} {ds : List PyData} (h : LAt H p ds) : Dv H (.ref p) (.list ds) := let ⟨_, e, d, _⟩ := h; .lst (.of e) d
theorem LAt.keeps {H H' : Hp} {p : Addr} {ds : List PyData} (s : Same H H') (h : LAt H p ds) : LAt H' p ds := let ⟨xs, e, d, i⟩ := h; ⟨xs, s _ _ e, d.keeps s, i⟩
theorem LAt.mv {S : List Addr} {H H' : Hp} {p : Addr} {ds : List PyData} (m : Mv S H H') (n : p ∉ S) (h : LAt H p ds) : LAt H' p ds := let ⟨xs, e, d, i⟩ := h; ⟨xs, m.at n e, m.dats i d, i⟩
theorem LAt.ne {H : Hp} {p q : Addr} {ds : List PyData} (h : LAt H p ds) (hn : H q = none) : p ≠ q := let ⟨_, e, _, _⟩ := h; ne_of_none e hn
theorem lat_upd {H : Hp} {p : Addr} {xs : List V} {ds : List PyData} (hn : H p = none) (d : Dvs H xs ds) (i : ImmAll ds = true) : LAt (upd H p (.lst xs)) p ds := ⟨xs, upd_same, d.keeps (same_upd hn), i⟩
theorem notin1 {p q : Addr} (h : p ≠ q) : p ∉ [q] := by simpa using h
theorem small {n m : Nat} (h : n ≤ m) (hm : m ≤ 4000 := by decide) : n ≤ sizeLine := Nat.le_trans h (Nat.le_trans hm (by decide))
theorem smaller {n : Nat} (h : n ≤ 4000) : n < sizeLine := Nat.lt_of_le_of_lt h (by decide)
section
variable {σ : St} {H : Hp} {Q : VK} {D : Ends} {K : PySem.W.Frag} {p : Addr} {ds : List PyData}
theorem r_bm {T : String} {r : V → List V → Hp → VK → Prop} {to : TE} {t : TA} (h : to σ H fun x H1 => tyV K T x H1 ∧ t σ H1 fun xs H2 => r x xs H2 Q) : tBM K T r to t σ H Q := h
theorem r_bm0 {T : String} {r : V → List V → Hp → VK → Prop} {to : TE} (h : to σ H fun x H1 => tyV K T x H1 ∧ r x [] H1 Q) : tBM0 K T r to σ H Q := h
theorem r_tyL {R : Prop} (hp : LAt H p ds) (h : R) : tyV K "list" (.ref p) H ∧ R := let ⟨xs, e, _, _⟩ := hp; ⟨.inl ⟨rfl, xs, SqL.of e⟩, h⟩
theorem r_app {y : V} {d : PyData} (hp : LAt H p ds) (hl : ds.length ≤ 4000) (hy : Dv H y d) (hi : Imm d = true) (h : ∀ H2, Mv [p] H H2 → LAt H2 p (ds ++ [d]) → Q .non H2) : rAppend (.ref p) [y] H Q := by
  obtain ⟨xs, e, dv, i⟩ := hp
  have m : Mv [p] H (upd H p (.lst (xs ++ [y]))) := .of_upd e (by intro _ z; cases z)
  refine ⟨p, xs, y, rfl, rfl, e, by rw [dv.length]; exact smaller hl, h _ m ⟨_, upd_same, m.dats (immAll_append i (by simp [ImmAll, hi])) (dv.append (.cons hy .nil)), immAll_append i (by simp [ImmAll, hi])⟩⟩
theorem r_lstA {xs : List V} (hl : xs.length ≤ sizeLine) (hd : Dvs H xs ds) (hi : ImmAll ds = true) (k : ∀ p H2, Same H H2 → H p = none → LAt H2 p ds → Q (.ref p) H2) : LstP xs H Q :=
  ⟨hl, ds, hd, fun p H2 s n e d _ => k p H2 s n ⟨xs, e, d, hi⟩⟩
end
end L2

namespace L2
open PySem PySem.Spec PyProof.Rows PySem.W
mutual
theorem Dv.fn {H : Hp} : ∀ {v : V} {d e : PyData}, Dv H v d → Dv H v e → Imm d = true → d = e
  | _, _, _, .non, h, _ => by cases h; rfl
  | _, _, _, .bl b, h, _ => by cases h; rfl
  | _, _, _, .int i, h, _ => by cases h; rfl
  | _, _, _, .str x, h, _ => by cases h; rfl
  | _, _, _, .tup h r, h2, c => by
    cases h2 with
    | tup h' r' =>
      have c' := (by simpa [Imm] using c : ImmAll _ = true)
      rw [h] at h'
      cases h'
      rw [Dvs.fn r r' c']
    | lst h' r' =>
      rcases h' with h' | ⟨o, h'⟩ <;> rw [h] at h' <;> cases h'
    | dct h' r' => rw [h] at h'; cases h'
  | _, _, _, .lst h r, _, c => by simp [Imm] at c
  | _, _, _, .dct h r, _, c => by simp [Imm] at c
theorem Dvs.fn {H : Hp} : ∀ {v : List V} {d e : List PyData}, Dvs H v d → Dvs H v e → ImmAll d = true → d = e
  | _, _, _, .nil, h, _ => by cases h; rfl
  | _, _, _, .cons h r, h2, c => by
    have c' := c
    simp only [ImmAll, Bool.and_eq_true] at c'
    cases h2 with
    | cons h' r' => rw [Dv.fn h h' c'.1, Dvs.fn r r' c'.2]
end
theorem Dv.lst_inv {H : Hp} {v : V} {ds : List PyData} (h : Dv H v (.list ds)) : ∃ a xs, v = .ref a ∧ (∀ K : PySem.W.Frag, SqL K H a xs) ∧ Dvs H xs ds := by
  cases h with
  | lst h r => exact ⟨_, _, rfl, fun _ => .inl h, r⟩
section
variable {σ : St} {H : Hp} {Q : VK} {D : Ends} {K : PySem.W.Frag} {p : Addr} {v : V} {ds : List PyData}
def LCT (te : TE) (N : Option V → Hp → Prop) (σ2 : St) (b : Bool) (H3 : Hp) : Prop := if b = true then te σ2 H3 (fun y H4 => N (some y) H4) else N none H3
theorem r_lcT {k : Nat} {tl : TE} {g : TG} {tc : TT} {te : TE} (h : tl σ H fun x H1 => ∃ a, x = .ref a ∧ (∃ xs, SqL K H1 a xs) ∧ LCW k g tc te (LCFin Q) σ (Itl K a) H1) : tLC k (iList K tl) g tc te σ H Q := h
theorem r_lc {k : Nat} {g : TG} {tc : TT} {te : TE} {α : Type} {cs : List α} {gd : α → PyData} (pf : α → Bool) (fd : α → PyData) (hl : Dv H v (.list (cs.map gd))) (hlen : cs.length ≤ 4000) (hi : ∀ c, Imm (fd c) = true)
    (turn : ∀ x c H' (N : Option V → Hp → Prop), c ∈ cs → Same H H' → Dv H' x (gd c) → (pf c = true → ∀ y H4, Same H' H4 → Dv H4 y (fd c) → N (some y) H4) → (pf c = false → ∀ H3, Same H' H3 → N none H3) →
      g x (List.replicate k none ++ σ) H' fun σ2 H2 => tc σ2 H2 fun b H3 => LCT te N σ2 b H3)
    (kk : ∀ q H', Same H H' → H q = none → LAt H' q ((cs.filter pf).map fd) → Q (.ref q) H') : ∃ a, v = .ref a ∧ (∃ xs, SqL K H a xs) ∧ LCW k g tc te (LCFin Q) σ (Itl K a) H := by
  obtain ⟨p, xs, rfl, e, dv⟩ := hl.lst_inv
  have hl0 : SqL K H p xs := e K
  have hxl : xs.length = cs.length := by rw [dv.length, List.length_map]
  refine ⟨p, rfl, ⟨xs, hl0⟩, fun i m acc H' => i ≤ cs.length ∧ m = cs.length - i ∧ Same H H' ∧ Dvs H' acc (((cs.take i).filter pf).map fd), ⟨cs.length, Nat.zero_le _, rfl, Same.refl _, by simpa using Dvs.nil⟩, ?_⟩
  rintro i m acc H' ⟨hi1, hm, sm, hacc⟩
  have hl' : SqL K H' p xs := Same.seq sm hl0
  have hal : acc.length ≤ cs.length := by
    rw [hacc.length, List.length_map]
    exact Nat.le_trans (List.length_filter_le _ _) (by rw [List.length_take]; omega)
  by_cases hc : i = cs.length
  · left
    refine ⟨⟨xs, hl', by omega⟩, fun q hq => ?_⟩
    rw [hc, List.take_length] at hacc
    have sm2 : Same H (upd H' q (.lst acc)) := sm.trans (same_upd hq)
    exact kk q _ sm2 (sm.none hq) ⟨acc, upd_same, hacc.keeps (same_upd hq), immAll_map hi _⟩
  · right
    have hlt : i < cs.length := by omega
    have hlx : i < xs.length := by omega
    refine ⟨⟨xs, xs[i], hl', List.getElem?_eq_getElem hlx⟩, smaller (by omega), fun x H2 hy => ?_⟩
    obtain ⟨rfl, hy⟩ := hy
    have hx := hy xs hl'
    have hcs : cs[i]? = some cs[i] := List.getElem?_eq_getElem hlt
    obtain ⟨x', hx', hd⟩ := dv.get (i := i) (d := gd cs[i]) (by rw [List.getElem?_map, hcs]; rfl)
    rw [hx] at hx'
    cases hx'
    have htk : cs.take (i + 1) = cs.take i ++ [cs[i]] := by rw [List.take_add_one, hcs]; rfl
    exact turn x cs[i] H2 (fun o H4 => match o with | some y => ∃ m', m' < m ∧ i + 1 ≤ cs.length ∧ m' = cs.length - (i + 1) ∧ Same H H4 ∧ Dvs H4 (acc ++ [y]) (((cs.take (i + 1)).filter pf).map fd) | none => ∃ m', m' < m ∧ i + 1 ≤ cs.length ∧ m' = cs.length - (i + 1) ∧ Same H H4 ∧ Dvs H4 acc (((cs.take (i + 1)).filter pf).map fd))
      (List.getElem_mem hlt) sm (hd.keeps sm)
      (fun hp y H4 s4 d4 => ⟨cs.length - (i + 1), by omega, hlt, rfl, sm.trans s4, by
        rw [htk, List.filter_append, List.map_append]
        simp only [List.filter_cons, hp, if_true, List.filter_nil, List.map_cons, List.map_nil]
        exact Dvs.append (hacc.keeps s4) (.cons d4 .nil)⟩)
      (fun hp H3 s3 => ⟨cs.length - (i + 1), by omega, hlt, rfl, sm.trans s3, by
        rw [htk, List.filter_append, List.map_append]
        simp only [List.filter_cons, hp, Bool.false_eq_true, if_false, List.filter_nil, List.map_nil, List.append_nil]
        exact hacc.keeps s3⟩)
end
end L2
namespace L2
open PySem PySem.Spec PyProof.Rows PySem.W
def lcCheck (scope sc : Scope) (N M : List Str) : Bool :=
  (scope.kind == .function) && scope.names.all (fun y => y.2 != .cell) && scope.names.all (fun y => y.2 != .local || scope.names.lookup y.1 == some .local) &&
    scope.names.all (fun y => y.2 != .free || (sc.names.lookup y.1 == some .cell || sc.names.lookup y.1 == some .free)) && (M.length == N.length) &&
    (M.zip N).all fun p => (p.1 == p.2 && scope.names.lookup p.1 == some .free) || scope.names.lookup p.1 == none
theorem lcn {X : Cx} {T M : List Str} {scope : Scope} (sc : Scope) (N : List Str) (hs : X.env.scope = sc) (hN : X.N = N) (h : lcCheck scope sc N M = true) : LCNames X T M scope := by
  unfold lcCheck at h
  simp only [Bool.and_eq_true, List.all_eq_true, Bool.or_eq_true, bne_iff_ne, beq_iff_eq, ne_eq] at h
  obtain ⟨⟨⟨⟨⟨h1, h2⟩, h3⟩, h4⟩, h5⟩, h6⟩ := h
  refine ⟨h1, h2, fun y hy e => ?_, fun y hy e => ?_, by rw [hN]; exact h5, fun i x hx => ?_⟩
  · rcases h3 y hy with z | z
    · exact absurd e z
    · exact z
  · rw [hs]
    rcases h4 y hy with z | z
    · exact absurd e z
    · exact z
  · have hi : i < M.length := (List.getElem?_eq_some_iff.mp hx).1
    have hiN : i < N.length := by omega
    have hz : (M.zip N)[i]? = some (x, N[i]) := by
      rw [List.getElem?_zip_eq_some]
      exact ⟨hx, List.getElem?_eq_getElem hiN⟩
    rcases h6 _ (List.mem_of_getElem? hz) with ⟨a, b⟩ | a
    · left
      refine ⟨?_, b⟩
      rw [hN, List.getElem?_eq_getElem hiN]
      have a' : x = N[i] := a
      rw [a']
    · exact .inr a
section
variable {σ : St} {H : Hp} {Q : VK} {D : Ends} {K : PySem.W.Frag} {p : Addr} {v : V} {ds : List PyData}
def rAddS : R2 := fun x y H Q => ∃ i j, x = .str i ∧ y = .str j ∧ i.length + j.length ≤ sizeLine ∧ Q (.str (i ++ j)) H
theorem op_addS {X : Cx} : OpR X (binaryOp .Add) rAddS := op_add_str
theorem r_addS {i j : Str} (hl : i.length + j.length ≤ 4000) (h : Q (.str (i ++ j)) H) : rAddS (.str i) (.str j) H Q := ⟨i, j, rfl, rfl, small hl, h⟩
def rListOf (K : PySem.W.Frag) : List V → Hp → VK → Prop := fun xs H Q => ∃ p ys, xs = [.ref p] ∧ (SqL K H p ys ∨ SqT K H p ys) ∧ ∀ l, H l = none → Q (.ref l) (upd H l (.lst ys))
theorem cut_nat (xs : List V) (i j : Nat) : cutV xs (some (i : Int)) (some (j : Int)) = (xs.drop i).take (j - i) := by
  unfold cutV
  rw [HT.sIx_nat, HT.sIx_nat]
  by_cases h : i ≤ xs.length
  · rw [Nat.min_eq_left h]
    by_cases h2 : j ≤ xs.length
    · rw [Nat.min_eq_left h2]
    · rw [Nat.min_eq_right (by omega)]
      rw [List.take_of_length_le (by rw [List.length_drop]; omega), List.take_of_length_le (by rw [List.length_drop]; omega)]
  · rw [List.drop_of_length_le (show xs.length ≤ min i xs.length by omega), List.drop_of_length_le (show xs.length ≤ i by omega), List.take_nil, List.take_nil]
theorem r_sl {te : TE} {tl th : TO} {r : V → Option Int → Option Int → Hp → VK → Prop} (h : te σ H fun x H1 => tl σ H1 fun l H2 => th σ H2 fun u H3 => r x l u H3 Q) : tSl r te tl th σ H Q := h
theorem r_part {t : TE} {R : Option Int → Hp → Prop} (h : t σ H fun x H1 => ∃ i, x = .int i ∧ R (some i) H1) : tPart t σ H R := h
theorem r_noPart {R : Option Int → Hp → Prop} (h : R none H) : tNoPart σ H R := h
theorem r_partI {i : Int} {R : Int → Prop} (h : R i) : ∃ j, V.int i = .int j ∧ R j := ⟨i, rfl, h⟩
def Unp3 (K : PySem.W.Frag) (x : V) (i j l : Nat) (R : St → Hp → Prop) (σ : St) (H : Hp) : Prop := gTup K 3 (gCons (gName i) (gCons (gName j) (gCons (gName l) gNil))) x σ H R
theorem forD {α : Type} {cs : List α} {gd : α → PyData} {g : TG} {tb : TS} (hl : Dv H v (.list (cs.map gd))) (Pv : Nat → St → Hp → Prop) (h0 : Pv 0 σ H) (hk : ∀ i σ H', i ≤ cs.length → Pv i σ H' → ∀ a xs, v = .ref a → SqL K H a xs → SqL K H' a xs)
    (hs : ∀ i c x σ H', cs[i]? = some c → Pv i σ H' → (Imm (gd c) = true → (∀ a xs, H a = some (.tup xs) → H' a = some (.tup xs)) → Dv H' x (gd c)) → (Same H H' → Dv H' x (gd c)) → g x σ H' fun σ2 H2 => tb { D with nx := Pv (i + 1), ct := Pv (i + 1), bk := D.nx } σ2 H2) (hd : ∀ σ H', Pv cs.length σ H' → D.nx σ H') : ForL K v g tb D σ H := by
  obtain ⟨p, xs, rfl, e, dv⟩ := hl.lst_inv
  have hxl : xs.length = cs.length := by rw [dv.length, List.length_map]
  refine forL (e K) Pv h0 (fun i σ H' hi hp => hk i σ H' (by omega) hp p xs rfl (e K)) (fun i x σ H' hx hp => ?_) (fun σ H' hp => hd σ H' (by rw [← hxl]; exact hp))
  have hi : i < cs.length := by have := (List.getElem?_eq_some_iff.mp hx).1; omega
  obtain ⟨x', hx', hd'⟩ := dv.get (i := i) (d := gd cs[i]) (by rw [List.getElem?_map, List.getElem?_eq_getElem hi]; rfl)
  rw [hx] at hx'
  cases hx'
  exact hs i cs[i] x σ H' (List.getElem?_eq_getElem hi) hp (fun im t => hd'.imm t im) (fun s => hd'.keeps s)
end
end L2
namespace L2
end L2
namespace L2
open PySem
end L2
namespace L2
open PySem
end L2
namespace L2
open PySem
theorem r_gname {i : Nat} {v : V} {σ : St} {H : Hp} {R : St → Hp → Prop} (h : R (σ.set i (some v)) H) : gName i v σ H R := h
theorem Mv.sameN {p : Addr} {H H1 H2 : Hp} (s : Same H H1) (m : Mv [p] H1 H2) (n : H p = Option.none) : Same H H2 := fun a o e => m.kp a o (notin1 (ne_of_none e n)) (s a o e)
end L2
namespace L2
open PySem
end L2
namespace L2
open PySem
theorem r_lct {te : TE} {N : Option V → Hp → Prop} {σ2 : St} {b : Bool} {H3 : Hp} (h1 : b = true → te σ2 H3 (fun y H4 => N (some y) H4)) (h2 : b = false → N none H3) : LCT te N σ2 b H3 := by
  unfold LCT
  cases b with
  | true => rw [if_pos rfl]; exact h1 rfl
  | false => rw [if_neg (by simp)]; exact h2 rfl
end L2
namespace L2
open PySem PySem.Spec PyProof.Rows
section
variable {X : Cx} {K : PySem.W.Frag} {a b e : Expr} {es : List Expr} {ta : TE} {pos : Pos}
end
end L2

namespace L2
open PySem PySem.Spec PyProof.Rows PySem.W
inductive DKs (H : Hp) : List (Key × V) → List (Str × PyData) → Prop where
  | nil : DKs H [] []
  | cons {k : Str} {v : V} {d : PyData} {kvs : List (Key × V)} {m : List (Str × PyData)} (h : Dv H v d) (i : Imm d = true) (r : DKs H kvs m) : DKs H ((.inr k, v) :: kvs) ((k, d) :: m)
def lkp (m : List (Str × PyData)) (k : Str) : Option PyData := (m.find? fun kv => decide (kv.1 = k)).map (·.2)
def putD (m : List (Str × PyData)) (k : Str) (d : PyData) : List (Str × PyData) := if (m.any fun kv => decide (kv.1 = k)) = true then m.map (fun kv => if kv.1 = k then (kv.1, d) else kv) else m ++ [(k, d)]
def dropD (m : List (Str × PyData)) (k : Str) : List (Str × PyData) := m.filter fun kv => decide (kv.1 ≠ k)
def DAt (H : Hp) (p : Addr) (m : List (Str × PyData)) : Prop := ∃ kvs, H p = some (.dK kvs) ∧ DKs H kvs m
section
variable {σ : St} {H : Hp} {Q : VK} {D : Ends} {K : PySem.W.Frag} {p : Addr} {m : List (Str × PyData)} {k : Str}
def rLenD : List V → Hp → VK → Prop := fun xs H Q => ∃ a kvs, xs = [V.ref a] ∧ H a = some (.dK kvs) ∧ Q (.int kvs.length) H
def ow : Option Int → V | none => .non | some i => .int i
def owD : Option Int → PyData | none => .none | some i => .int i
end
end L2
namespace L2
end L2
namespace L2
open PySem
end L2
namespace L2
open PySem
end L2

namespace L2
open PySem PySem.Spec PyProof.Rows PySem.W
def Its (x : Str) : It := ⟨fun i _ => i < x.cps.size, fun i H v H' => H' = H ∧ ∃ c, x.cps[i]? = some c ∧ v = .str ⟨#[c]⟩, fun i _ => i = x.cps.size⟩
def iStr (tl : TE) : TI := fun σ H R => tl σ H fun v H1 => ∃ x, v = .str x ∧ R (Its x) H1
section
variable {X : Cx} {tg : Expr}
def rLeS : R2 := fun x y H Q => ∃ i j, x = .str i ∧ y = .str j ∧ Q (.bl (!ltS j i)) H
def rAll : List V → Hp → VK → Prop := fun xs H Q => ∃ (v : V) (bs : List Bool), xs = [v] ∧ Dv H v (.list (bs.map PyData.bool)) ∧ Q (.bl (bs.all id)) H
def rAny : List V → Hp → VK → Prop := fun xs H Q => ∃ (v : V) (bs : List Bool), xs = [v] ∧ Dv H v (.list (bs.map PyData.bool)) ∧ Q (.bl (bs.any id)) H
section
variable {σ : St} {H : Hp} {Q : VK} {D : Ends} {K : PySem.W.Frag}
def ForS (x : V) (g : TG) (tb : TS) (D : Ends) (σ : St) (H1 : Hp) : Prop := ∃ z, x = .str z ∧ ∃ W : Nat → Nat → St → Hp → Prop, (∃ m, W 0 m σ H1) ∧ ∀ i m σ H, W i m σ H →
      ((Its z).stop i H ∧ D.nx σ H) ∨ ((Its z).go i H ∧ ∃ N : St → Hp → Prop, (∀ σ' H', N σ' H' → ∃ m', m' < m ∧ W (i + 1) m' σ' H') ∧ ∀ x H', (Its z).yld i H x H' → g x σ H' fun σ2 H2 => tb { D with nx := N, ct := N, bk := D.nx } σ2 H2)
end
end
end L2
namespace L2
open PySem
section
variable {H : Hp} {Q : VK} {K : PySem.W.Frag}
def rNinS : R2 := fun x y H Q => ∃ i j, x = .str i ∧ y = .str j ∧ Q (.bl (!(!(Builtin.Str.occurrences j i 0 j.length 1).isEmpty))) H
def rInS' : R2 := fun x y H Q => ∃ i j, x = .str i ∧ y = .str j ∧ Q (.bl (!(Builtin.Str.occurrences j i 0 j.length 1).isEmpty)) H
end
end L2

namespace L2
open PySem PySem.Spec PyProof.Rows PySem.W
section
variable {X : Cx}
theorem strs_at {H : Hp} : ∀ {xs : List V} {ss : List Str} {us : List Value}, Dvs H xs (ss.map PyData.str) → Vals xs us → StrsAre us ss
  | _, [], _, .nil, .nil => .nil
  | _, b :: bs, _, .cons h r, .cons q t => by
    cases h
    obtain ⟨tk, rfl⟩ := q
    exact .cons _ _ (strs_at r t)
def rJoin : V → List V → Hp → VK → Prop := fun x vs H Q => ∃ (sep : Str) (v : V) (ss : List Str), x = .str sep ∧ vs = [v] ∧ Dv H v (.list (ss.map PyData.str)) ∧ (ss.map (·.length)).sum + ss.length * sep.length ≤ 16777216 ∧ Q (.str (Txt.join sep ss)) H
theorem mt_join : MtR X "str.join" rJoin := by
  intro pins s σ H x vs v us Q I rx rv h
  obtain ⟨sep, y, ss, rfl, rfl, hd, hz, q⟩ := h
  obtain ⟨t, rfl⟩ := rx
  obtain ⟨u, rfl, ru⟩ := rv.one
  obtain ⟨p, xs, rfl, e, dv⟩ := hd.lst_inv
  obtain ⟨its, rvs, pl, _⟩ := I.list (e X.K)
  have hu : u = .ref p := ru
  subst hu
  have hs := strs_at dv rvs
  refine join_list pl.isList (by simpa using hs) hz fun t' k => ?_
  exact ⟨.str _, H, I.tok _, ⟨_, rfl⟩, q⟩
end
section
variable {σ : St} {H : Hp} {Q : VK} {D : Ends} {K : PySem.W.Frag} {p : Addr} {ds : List PyData}
theorem r_join {sep : Str} {v : V} {ss : List Str} (hd : Dv H v (.list (ss.map PyData.str))) (hz : (ss.map (·.length)).sum + ss.length * sep.length ≤ 16777216) (h : Q (.str (Txt.join sep ss)) H) : rJoin (.str sep) [v] H Q := ⟨sep, v, ss, rfl, rfl, hd, hz, h⟩
theorem r_tyS {z : Str} {R : Prop} (h : R) : tyV K "str" (.str z) H ∧ R := ⟨rfl, h⟩
theorem Dvs.rev {H : Hp} {xs : List V} {ds : List PyData} (h : Dvs H xs ds) : Dvs H xs.reverse ds.reverse := by
  induction xs generalizing ds with
  | nil => cases h; exact .nil
  | cons x xs ih =>
    cases h with
    | cons h r => rw [List.reverse_cons, List.reverse_cons]; exact (ih r).append (.cons h .nil)
theorem immAll_rev {ds : List PyData} (h : ImmAll ds = true) : ImmAll ds.reverse = true := by
  rw [immAll_iff] at *
  intro d hd
  exact h d (List.mem_reverse.mp hd)
theorem r_rev (hp : LAt H p ds) (h : ∀ H2, Mv [p] H H2 → LAt H2 p ds.reverse → Q .non H2) : rReverse (.ref p) [] H Q := by
  obtain ⟨xs, e, dv, i⟩ := hp
  have m : Mv [p] H (upd H p (.lst xs.reverse)) := .of_upd e (by intro _ z; cases z)
  exact ⟨p, xs, rfl, rfl, e, h _ m ⟨_, upd_same, m.dats (immAll_rev i) dv.rev, immAll_rev i⟩⟩
theorem Dvs.drop {H : Hp} : ∀ {xs : List V} {ds : List PyData} (n : Nat), Dvs H xs ds → Dvs H (xs.drop n) (ds.drop n)
  | _, _, 0, h => h
  | _, _, _ + 1, .nil => .nil
  | _, _, n + 1, .cons _ r => Dvs.drop n r
theorem immAll_drop {ds : List PyData} (n : Nat) (h : ImmAll ds = true) : ImmAll (ds.drop n) = true := by
  rw [immAll_iff] at *
  exact fun d hd => h d (List.mem_of_mem_drop hd)
theorem cut_from (xs : List V) (i : Nat) : cutV xs (some (i : Int)) none = xs.drop i := by
  have h1 : HT.sIx xs.length 0 (some (i : Int)) = min i xs.length := by
    simp only [HT.sIx]
    rw [if_neg (by omega)]
    omega
  have h2 : HT.sIx xs.length xs.length none = xs.length := rfl
  show (xs.drop (HT.sIx xs.length 0 (some (i : Int)))).take (HT.sIx xs.length xs.length none - HT.sIx xs.length 0 (some (i : Int))) = _
  rw [h1, h2]
  by_cases h : i ≤ xs.length
  · rw [Nat.min_eq_left h, List.take_of_length_le (by rw [List.length_drop]; omega)]
  · rw [List.drop_of_length_le (show xs.length ≤ min i xs.length by omega), List.drop_of_length_le (show xs.length ≤ i by omega), List.take_nil]
theorem r_cutF (i : Nat) (hp : LAt H p ds) (k : ∀ q H', Same H H' → H q = none → LAt H' q (ds.drop i) → Q (.ref q) H') : rSlL K (.ref p) (some (i : Int)) none H Q := by
  obtain ⟨xs, e, dv, im⟩ := hp
  refine ⟨p, xs, rfl, SqL.of e, fun q hq => ?_⟩
  rw [cut_from]
  exact k q _ (same_upd hq) hq (lat_upd hq (dv.drop i) (immAll_drop i im))
theorem r_catL {q : Addr} {es : List PyData} (hp : LAt H p ds) (hq : LAt H q es) (hl : ds.length + es.length ≤ 4000) (k : ∀ r H', Same H H' → H r = none → LAt H' r (ds ++ es) → Q (.ref r) H') : rCat (.ref p) (.ref q) H Q := by
  obtain ⟨xs, e, dv, im⟩ := hp
  obtain ⟨zs, e2, dv2, im2⟩ := hq
  refine ⟨p, q, xs, zs, rfl, rfl, e, e2, by rw [dv.length, dv2.length]; exact small hl, fun r hr => ?_⟩
  exact k r _ (same_upd hr) hr (lat_upd hr (dv.append dv2) (immAll_append im im2))
end
end L2

namespace L2
open PySem PySem.Calls PyProof.Rows
section
variable {X : Cx} {e k : Expr} {te tk : TE} {pos p2 : Pos}
def rRevL (K : PySem.W.Frag) : V → V → Hp → VK → Prop := fun x y H Q => ∃ a xs, x = .ref a ∧ y = .int (-1) ∧ SqL K H a xs ∧ ∀ p, H p = none → Q (.ref p) (upd H p (.lst xs.reverse))
def tSlR (K : PySem.W.Frag) (te tk : TE) : TE := fun σ H Q => te σ H fun x H1 => tk σ H1 fun y H2 => rRevL K x y H2 Q
end
section
variable {X : Cx}
def rLtS : R2 := fun x y H Q => ∃ i j, x = .str i ∧ y = .str j ∧ Q (.bl (ltS i j)) H
end
section
variable {K : PySem.W.Frag} {σ : St} {H : Hp} {Q : VK} {p : Addr} {ds : List PyData}
end
end L2

set_option maxHeartbeats 4000000
namespace My
open PySem L2
def num (c : Int) : Int := if c % 3 = 0 then c / 3 % 7 else if c % 3 = 1 then c / 3 % 1000 else c / 3 % 10 ^ 39
theorem num_nn (c : Int) : 0 ≤ num c := by
  unfold num
  split
  · omega
  · split
    · omega
    · exact Int.emod_nonneg _ (by decide)
theorem num_lt (c : Int) : num c < 10 ^ 39 := by
  unfold num
  split
  · omega
  · split
    · omega
    · exact Int.emod_lt_of_pos _ (by decide)
def MOk (m : V) : Prop := m = .non ∨ ∃ i, m = .int i ∧ 1 ≤ i
def capN (m : V) (n : Int) : Int := match m with
  | .int i => if i ≤ n then i else n
  | _ => n
def capD (m : V) (n : Int) (d : PyData) : PyData := match m with
  | .int i => if i ≤ n then .none else d
  | _ => d
theorem capD_non (n : Int) (d : PyData) : capD .non n d = d := rfl
theorem capD_le {i n : Int} {d : PyData} (h : i ≤ n) : capD (.int i) n d = .none := if_pos h
theorem capD_gt {i n : Int} {d : PyData} (h : ¬ i ≤ n) : capD (.int i) n d = d := if_neg h
theorem capN_non (n : Int) : capN .non n = n := rfl
theorem capN_le {i n : Int} (h : i ≤ n) : capN (.int i) n = i := if_pos h
theorem capN_gt {i n : Int} (h : ¬ i ≤ n) : capN (.int i) n = n := if_neg h
def place (m : V) (n : Int) (d : PyData) : PyData := .tuple [.int (capN m n), capD m n d]
def fOnce : List V → List (Str × V)
  | [f, .non] => [("many", .int 1), ("first", f), ("last", f)]
  | [f, l] => [("many", .int 1), ("first", f), ("last", l)]
  | _ => []
def fEach : List V → List (Str × V)
  | [st, sp, wd, m] => [("many", m), ("start", st), ("step", sp), ("wide", wd)]
  | _ => []
def fBehind : List V → List (Str × V)
  | [st, gp, wd, m] => [("many", m), ("start", st), ("gap", gp), ("wide", wd)]
  | _ => []
def fSlowing : List V → List (Str × V)
  | [st, gp, mo, wd, m] => [("many", m), ("start", st), ("gap", gp), ("wide", wd), ("most", mo)]
  | _ => []
def Lim (i : Int) : Prop := -(10 ^ 200) < i ∧ i < 10 ^ 200
inductive Wk (R : Int → Int → Int × Int) (now : Int) : Int → Int → Int → Int → Int → Int → Prop where
  | here {num x y : Int} (h : now < y) : Wk R now num x y num x y
  | next {num x y k x' y' : Int} (h : y ≤ now) (w : Wk R now (num + 1) (R num y).1 (R num y).2 k x' y') : Wk R now num x y k x' y'
theorem Wk.inj {R : Int → Int → Int × Int} {now num x y k x' y' k2 x2 y2 : Int} (h : Wk R now num x y k x' y') (g : Wk R now num x y k2 x2 y2) : k = k2 ∧ x' = x2 ∧ y' = y2 := by
  induction h with
  | here h =>
    cases g with
    | here _ => exact ⟨rfl, rfl, rfl⟩
    | next h2 _ => omega
  | next h _ ih =>
    cases g with
    | here h2 => omega
    | next _ w => exact ih w
theorem Wk.fst {R : Int → Int → Int × Int} {now num x y k x' y' : Int} (h : Wk R now num x y k x' y') : num ≤ k ∧ now < y' := by
  induction h with
  | here h => exact ⟨by omega, h⟩
  | next h _ ih => exact ⟨by omega, ih.2⟩
theorem Wk.le {R : Int → Int → Int × Int} {now num x y k x' y' : Int} (h : Wk R now num x y k x' y') (hw : x ≤ y) (hR : ∀ n s, (R n s).1 ≤ (R n s).2) : x' ≤ y' := by
  induction h with
  | here h => exact hw
  | next h _ ih => exact ih (hR _ _)
theorem Wk.on {R : Int → Int → Int × Int} {now later num x y k x' y' : Int} (h : Wk R now num x y k x' y') (hl : now ≤ later) {k2 x2 y2 : Int} (g : Wk R later k x' y' k2 x2 y2) : Wk R later num x y k2 x2 y2 := by
  induction h with
  | here h => exact g
  | next h _ ih => exact .next (by omega) (ih g)
def steps (e span now : Int) : Int := max 0 ((now - e) / span + 1)
theorem steps_zero {e span now : Int} (hs : 0 < span) (h : now < e) : steps e span now = 0 := by
  unfold steps
  have : (now - e) / span < 0 := Int.ediv_neg_of_neg_of_pos (by omega) hs
  omega
theorem steps_next {e span now : Int} (hs : 0 < span) (h : e ≤ now) : steps e span now = steps (e + span) span now + 1 := by
  unfold steps
  have h1 : 0 ≤ (now - e) / span := Int.ediv_nonneg (by omega) (by omega)
  have h2 : (now - (e + span)) / span = (now - e) / span - 1 := by
    have : now - (e + span) = (now - e) + span * (-1) := by omega
    rw [this, Int.add_mul_ediv_left _ _ (by omega)]
    omega
  rw [h2]
  omega
theorem steps_nn {e span now : Int} : 0 ≤ steps e span now := by unfold steps; omega
theorem steps_le {e span now b : Int} (hs : 0 < span) (h : now - e ≤ b) (hb : 0 ≤ b) : steps e span now ≤ b + 1 := by
  unfold steps
  have : (now - e) / span ≤ b := by
    by_cases h0 : 0 ≤ now - e
    · exact Int.le_trans (Int.ediv_le_self _ h0) h
    · have := Int.ediv_neg_of_neg_of_pos (show now - e < 0 by omega) hs
      omega
  omega
theorem leap_wk {R : Int → Int → Int × Int} {now span wd : Int} (hs : 0 < span) : ∀ (j : Nat) {num e : Int}, (steps e span now).toNat = j → (∀ i : Nat, R (num + i) (e + i * span) = (e + (i + 1) * span - wd, e + (i + 1) * span)) →
    Wk R now num (e - wd) e (num + steps e span now) (e + steps e span now * span - wd) (e + steps e span now * span) := by
  intro j
  induction j with
  | zero =>
    intro num e hj hR
    have h0 : steps e span now = 0 := by have := steps_nn (e := e) (span := span) (now := now); omega
    have hlt : now < e := by
      by_cases h : now < e
      · exact h
      · have := steps_next hs (show e ≤ now by omega)
        have := steps_nn (e := e + span) (span := span) (now := now)
        omega
    rw [h0, Int.zero_mul, Int.add_zero, Int.add_zero]
    exact .here hlt
  | succ j ih =>
    intro num e hj hR
    have hle : e ≤ now := by
      by_cases h : e ≤ now
      · exact h
      · have := steps_zero hs (show now < e by omega); omega
    have hn := steps_next hs hle
    have r0 := hR 0
    simp only [Int.natCast_zero, Int.zero_mul, Int.add_zero, Int.zero_add, Int.one_mul] at r0
    refine .next hle ?_
    rw [r0]
    have w := ih (num := num + 1) (e := e + span) (by omega) (fun i => by
      have r := hR (i + 1)
      have c1 : num + 1 + (i : Int) = num + ((i + 1 : Nat) : Int) := by omega
      have c2 : e + span + (i : Int) * span = e + ((i + 1 : Nat) : Int) * span := by rw [show ((i + 1 : Nat) : Int) = (i : Int) + 1 by omega, Int.add_mul]; omega
      have c3 : e + span + ((i : Int) + 1) * span = e + (((i + 1 : Nat) : Int) + 1) * span := by
        rw [show (((i + 1 : Nat) : Int) + 1) = ((i : Int) + 1) + 1 by omega, Int.add_mul ((i : Int) + 1) 1, Int.one_mul]; omega
      rw [c1, c2, c3]; exact r)
    have e1 : num + steps e span now = num + 1 + steps (e + span) span now := by omega
    have e2 : e + steps e span now * span = e + span + steps (e + span) span now * span := by rw [hn, Int.add_mul]; omega
    rw [e1, e2]
    exact w
local macro_rules | `(tactic| walk_at "same") => `(tactic| first
  | exact Same.refl _
  | assumption
  | (refine' Same.trans ?m ?s; (case s => assumption); (case m => walk_at "same")))
local macro_rules | `(tactic| walk_at "at") => `(tactic| first
  | assumption
  | exact upd_same
  | (refine' Same.at ?s ?m; (case s => assumption); (case m => walk_at "at")))
local macro_rules | `(tactic| walk_at "dat") => `(tactic| first
  | exact Dv.int _
  | exact Dv.non
  | exact Dv.bl _
  | exact Dv.str _
  | assumption
  | (refine' Dv.keeps ?s ?m; (case s => assumption); (case m => walk_at "dat")))
local macro_rules | `(tactic| walk_at "ins") => `(tactic| first
  | assumption
  | (refine' Ins.keeps ?s ?m; (case s => assumption); (case m => walk_at "ins")))
local macro_rules | `(tactic| walk_at "dats") => `(tactic| first
  | exact Dvs.nil
  | (refine' Dvs.cons ?m ?s; (case m => walk_at "dat"); (case s => walk_at "dats"))
  | assumption
  | (refine' Dvs.keeps ?s ?m; (case s => assumption); (case m => walk_at "dats")))
local macro_rules | `(tactic| walk_at "sql") => `(tactic| first
  | assumption
  | (refine' Same.seq ?s ?m; (case s => assumption); (case m => walk_at "sql")))
local macro_rules | `(tactic| walk_at "isq") => `(tactic| first
  | (refine' Or.inl ?m; case m => walk_at "dat")
  | (refine' Or.inr ?m; case m => walk_at "dat"))
local macro_rules | `(tactic| walk_at "side") => `(tactic| first
  | omega
  | assumption
  | exact (by decide)
  | exact cdivB (by omega) (by omega)
  | exact cmulB ⟨by omega, by omega⟩ ⟨by omega, by omega⟩
  | exact ⟨by decide, by decide, by decide⟩)
local macro_rules | `(tactic| walk_at "use") => `(tactic| fail)
local macro_rules | `(tactic| walk_at "lk") => `(tactic| fail)
local macro_rules | `(tactic| walk_at "put") => `(tactic| fail)
local macro_rules | `(tactic| walk_at "fin") => `(tactic| fail)
local macro_rules | `(tactic| walk_at "wds") => `(tactic| first
  | with_reducible refine r_wd (ws := [_]) rfl ?_
  | with_reducible refine r_wd (ws := [_, _]) rfl ?_
  | with_reducible refine r_wd (ws := [_, _, _]) rfl ?_
  | with_reducible refine r_wd (ws := [_, _, _, _]) rfl ?_
  | with_reducible refine r_wd (ws := [_, _, _, _, _]) rfl ?_
  | with_reducible refine r_wd (ws := [_, _, _, _, _, _]) rfl ?_
  | with_reducible refine r_wd (ws := []) rfl ?_)
local macro_rules | `(tactic| walk_at "mks") => `(tactic| first
  | refine r_makeI (args := [_]) rfl ?_ (fun _ _ _ _ => ?_)
  | refine r_makeI (args := [_, _]) rfl ?_ (fun _ _ _ _ => ?_)
  | refine r_makeI (args := [_, _, _]) rfl ?_ (fun _ _ _ _ => ?_)
  | refine r_makeI (args := [_, _, _, _]) rfl ?_ (fun _ _ _ _ => ?_)
  | refine r_makeI (args := [_, _, _, _, _]) rfl ?_ (fun _ _ _ _ => ?_))
local macro_rules | `(tactic| walk_at "br") => `(tactic| ((with_reducible refine if_bl (fun hb => ?_) (fun hb => ?_)) <;> (try simp only [id, decide_eq_true_eq, decide_eq_false_iff_not, Bool.not_eq_true', Bool.not_eq_false', Bool.not_true, Bool.not_false, V.int.injEq, Bool.true_eq_false, Bool.false_eq_true, reduceCtorEq, decide_true, decide_false, not_true, not_false_iff, PyData.eqv, PyData.eqvAll, Bool.and_eq_true, Bool.and_eq_false_iff, Bool.or_eq_true, Bool.or_eq_false_iff, beq_iff_eq, beq_eq_false_iff_ne, ne_eq, bne_iff_ne, Bool.and_true, Bool.and_false, Bool.and_self, beq_self_eq_true, isInt, isBool, isStr, isLst, isTup, isDct, List.length_cons, List.length_nil] at hb) <;> (try (exfalso; omega)) <;> (try (exfalso; (refine' ref_ne hb ?d); (case d => walk_at "dat")))))
local macro_rules | `(tactic| walk_at "rd1") => `(tactic| first
  | with_reducible refine r_cutS ?_
  | with_reducible refine r_asg ?_
  | with_reducible refine r_ret ?_
  | with_reducible refine r_drop ?_
  | with_reducible refine r_ifS ?_
  | ((with_reducible refine' r_var ?e ?_); case e => exact rfl)
  | with_reducible refine r_c ?_
  | with_reducible refine r_op ?_
  | with_reducible refine r_i0 ?_
  | ((with_reducible refine' r_powE ?e1 ?e2 ?_); (case e1 => exact ⟨by decide, by decide, by decide⟩); (case e2 => ((conv => lhs; simp only [Int.reduceToNat]) <;> exact rfl)))
  | ((with_reducible refine' r_i ?e ?_); case e => walk_at "side")
  | with_reducible refine r_cons ?_
  | with_reducible refine r_nil ?_
  | with_reducible refine r_callN ?_
  | with_reducible refine r_cb ?_
  | with_reducible refine r_test ?_
  | with_reducible refine r_and ?_
  | with_reducible refine r_or ?_
  | with_reducible refine r_not ?_
  | with_reducible refine r_andV ?_
  | with_reducible refine r_notV ?_
  | with_reducible refine r_ifE ?_
  | with_reducible refine r_bl ?_
  | with_reducible refine r_truB ?_
  | with_reducible refine if_true' ?_
  | with_reducible refine if_false' ?_
  | walk_at "br"
  | with_reducible refine r_next ?_
  | ((with_reducible refine' r_eqS ?e ?_); case e => exact rfl)
  | ((with_reducible refine' r_ixD ?e1 ?e2 ?_); (case e1 => walk_at "isq"); (case e2 => exact rfl))
  | ((with_reducible refine' r_lenL ?e ?_); case e => walk_at "sql")
  | ((with_reducible refine' r_strI ?e1 ?e2 ?_); (case e1 => omega); (case e2 => omega))
  | with_reducible refine r_minP (fun _ _ _ _ => ?_)
  | with_reducible refine r_maxP (fun _ _ _ _ => ?_)
  | ((with_reducible refine' r_modP ?e (fun _ _ => ?_)); case e => walk_at "side")
  | with_reducible refine r_is ?_
  | with_reducible refine r_sfld ?_
  | ((with_reducible refine' r_sfldv ?e1 ?e2 ?e3 ?e4 ?e5 ?_); (case e1 => walk_at "at"); (case e2 => assumption); (case e3 => assumption); (case e4 => exact len1000 rfl); (case e5 => walk_at "put"))
  | ((with_reducible refine' r_fldI ?e1 ?e2 ?e3 ?e4 ?_); (case e1 => walk_at "ins"); (case e2 => assumption); (case e3 => assumption); (case e4 => walk_at "lk"))
  | ((with_reducible refine' r_methI ?e1 ?e2 ?_); (case e1 => walk_at "ins"); (case e2 => walk_at "lk"))
  | ((with_reducible refine' r_isi_int ?e ?_); case e => walk_at "dat")
  | ((with_reducible refine' r_isi_bool ?e ?_); case e => walk_at "dat")
  | ((with_reducible refine' r_isi_str ?e ?_); case e => walk_at "dat")
  | with_reducible refine got_int ?_
  | with_reducible refine got_non ?_
  | with_reducible refine r_tupD ?_
  | ((with_reducible refine' r_tupE ?e1 ?e2 (fun _ _ _ _ => ?_)); (case e1 => exact len64 rfl); (case e2 => walk_at "dats"))
  | with_reducible refine r_lstD ?_
  | ((with_reducible refine' r_lstE ?e1 ?e2 (fun _ _ _ _ _ _ _ => ?_)); (case e1 => exact len64 rfl); (case e2 => walk_at "dats"))
  | with_reducible refine r_turn ?_
  | with_reducible refine r_for ?_
  | with_reducible refine r_forR1 ?_
  | ((with_reducible refine' r_rng1 ?e1 ?e2 ?_); (case e1 => omega); (case e2 => omega))
  | with_reducible refine r_fld ?_
  | with_reducible refine r_methN ?_
  | with_reducible refine r_makeN ?_
  | ((with_reducible refine r_or1 ?_); (with_reducible refine r_methN ?_); ((with_reducible refine' r_var ?e ?_); case e => exact rfl); ((with_reducible refine' r_methI ?e1 ?e2 ?_); (case e1 => walk_at "ins"); (case e2 => walk_at "lk")))
  | with_reducible refine r_or2 ?_
  | with_reducible refine got_any (fun _ _ => ?_)
  | walk_at "wds"
  | walk_at "mks"
  | walk_at "use"
  | walk_at "fin")
local macro_rules | `(tactic| walk_at "lat") => `(tactic| first
  | assumption
  | (refine' LAt.keeps ?s ?m; (case s => assumption); (case m => walk_at "lat"))
  | (refine' LAt.mv ?s ?n ?m; (case s => assumption); (case n => walk_at "nin"); (case m => walk_at "lat"))
  | fail)
local macro_rules | `(tactic| walk_at "nin") => `(tactic| first
  | (refine' notin1 ?n1; (case n1 => walk_at "ne"))
  | fail)
local macro_rules | `(tactic| walk_at "ne") => `(tactic| first
  | assumption
  | (refine Ne.symm ?_; assumption)
  | (refine' LAt.ne ?h ?n; (case n => assumption); (case h => walk_at "lat"))
  | (refine' Ne.symm (LAt.ne ?h ?n); (case n => assumption); (case h => walk_at "lat"))
  | fail)
local macro_rules | `(tactic| walk_at "dla") => `(tactic| first
  | assumption
  | (refine' DAt.keeps ?s ?m; (case s => assumption); (case m => walk_at "dla"))
  | (refine' DAt.mv ?s ?n ?m; (case s => assumption); (case n => walk_at "nin"); (case m => walk_at "dla"))
  | fail)
local macro_rules | `(tactic| walk_at "ne") => `(tactic| first
  | (refine' DAt.ne ?h ?n; (case n => assumption); (case h => walk_at "dla"))
  | (refine' Ne.symm (DAt.ne ?h ?n); (case n => assumption); (case h => walk_at "dla"))
  | fail)
local macro_rules | `(tactic| walk_at "imm") => `(tactic| first
  | rfl
  | assumption
  | exact immAll_map (fun _ => rfl) _
  | (refine' LAt.imm ?h; (case h => assumption))
  | fail)
local macro_rules | `(tactic| walk_at "dm") => `(tactic| first
  | exact fun _ h => h
  | fail)
local macro_rules | `(tactic| walk_at "none") => `(tactic| first
  | assumption
  | fail)
local macro_rules | `(tactic| walk_at "same") => `(tactic| first
  | (refine' Mv.sameN ?s ?m ?n; (case m => assumption); (case s => walk_at "same"); (case n => walk_at "none"))
  | fail)
local macro_rules | `(tactic| walk_at "mv") => `(tactic| first
  | exact Mv.refl
  | assumption
  | (refine' Mv.step ?m ?s ?h; (case s => assumption); (case m => walk_at "mv"); (case h => walk_at "ours"))
  | fail)
local macro_rules | `(tactic| walk_at "ours") => `(tactic| first
  | fail)
local macro_rules | `(tactic| walk_at "dat") => `(tactic| first
  | (refine' LAt.dv ?m; (case m => walk_at "lat"))
  | fail)
local macro_rules | `(tactic| walk_at "dats") => `(tactic| first
  | (refine' Mv.dats ?s ?i ?m; (case s => assumption); (case i => walk_at "imm"); (case m => walk_at "dats"))
  | fail)
local macro_rules | `(tactic| walk_at "len") => `(tactic| first
  | (simp only [List.length_map, List.length_append, List.length_cons, List.length_nil]; omega)
  | omega
  | fail)
local macro_rules | `(tactic| walk_at "rd1") => `(tactic| first
  | with_reducible refine r_gname ?_
  | with_reducible refine r_bm ?_
  | with_reducible refine r_bm0 ?_
  | ((with_reducible refine' r_tyL ?e ?_); case e => walk_at "lat")
  | ((with_reducible refine' r_app ?e1 ?e2 ?e3 ?e4 (fun _ _ _ => ?_)); (case e1 => walk_at "lat"); (case e3 => walk_at "dat"); (case e2 => walk_at "len"); (case e4 => walk_at "imm"))
  | ((with_reducible refine' r_lstA ?e1 ?e2 ?e3 (fun _ _ _ _ _ => ?_)); (case e1 => exact len64 rfl); (case e2 => walk_at "dats"); (case e3 => exact rfl))
  | with_reducible refine r_sl ?_
  | with_reducible refine r_part ?_
  | with_reducible refine r_noPart ?_
  | with_reducible refine r_partI ?_
  | with_reducible refine r_lcT ?_
  | ((with_reducible refine' r_addS ?e ?_); case e => walk_at "len")
  | ((with_reducible refine' r_ixD ?e1 ?e2 ?_); (case e1 => walk_at "isq"); (case e2 => first | exact atI_lastM | (refine' atI_mapI ?a ?b; (case a => omega); (case b => walk_at "len")) | fail))
  | fail)
local macro_rules | `(tactic| walk_at "rd1") => `(tactic| first
  | with_reducible refine r_tyS ?_
  | ((with_reducible refine' r_join ?e1 ?e2 ?_); (case e1 => walk_at "dat"); (case e2 => walk_at "jn"))
  | ((with_reducible refine' r_rev ?e1 (fun _ _ _ => ?_)); (case e1 => walk_at "lat"))
  | ((with_reducible refine' r_cutF _ ?e1 (fun _ _ _ _ _ => ?_)); (case e1 => walk_at "lat"))
  | ((with_reducible refine' r_catL ?e1 ?e2 ?e3 (fun _ _ _ _ _ => ?_)); (case e1 => walk_at "lat"); (case e2 => walk_at "lat"); (case e3 => walk_at "len"))
  | fail)

def top (i : Nat) : Stmt := PySem.Challenge.pw_wakefew_k07_rules_in_words.main.body.getD i (.Pass ⟨0, 0, 0, 0⟩)
abbrev s_is_whole : Stmt := top 5
theorem sc_is_whole : FnScope ["thing"] ["thing"] (defScope s_is_whole) := ⟨rfl, rfl, rfl, by decide +kernel, rfl, by decide +kernel, by decide +kernel⟩
abbrev s_figures : Stmt := top 6
theorem sc_figures : FnScope ["number", "piece", "parts"] ["number"] (defScope s_figures) := ⟨rfl, rfl, rfl, by decide +kernel, rfl, by decide +kernel, by decide +kernel⟩
abbrev s_check_from : Stmt := top 8
theorem sc_check_from : FnScope ["number", "least", "what"] ["number", "least", "what"] (defScope s_check_from) := ⟨rfl, rfl, rfl, by decide +kernel, rfl, by decide +kernel, by decide +kernel⟩
abbrev s_spans_over : Stmt := top 9
theorem sc_spans_over : FnScope ["end", "span", "now"] ["end", "span", "now"] (defScope s_spans_over) := ⟨rfl, rfl, rfl, by decide +kernel, rfl, by decide +kernel, by decide +kernel⟩
abbrev s_word_of : Stmt := top 10
theorem sc_word_of : FnScope ["number"] ["number"] (defScope s_word_of) := ⟨rfl, rfl, rfl, by decide +kernel, rfl, by decide +kernel, by decide +kernel⟩
abbrev s_row_of : Stmt := top 11
theorem sc_row_of : FnScope ["kind", "numbers"] ["kind", "numbers"] (defScope s_row_of) := ⟨rfl, rfl, rfl, by decide +kernel, rfl, by decide +kernel, by decide +kernel⟩
abbrev s_Rule___init__ : Stmt := inClass (top 12) 0
theorem sc_Rule___init__ : FnScope ["self", "many"] ["self", "many"] (defScope s_Rule___init__) := ⟨rfl, rfl, rfl, by decide +kernel, rfl, by decide +kernel, by decide +kernel⟩
abbrev s_Rule_place_of : Stmt := inClass (top 12) 6
theorem sc_Rule_place_of : FnScope ["self", "number", "stretch"] ["self", "number", "stretch"] (defScope s_Rule_place_of) := ⟨rfl, rfl, rfl, by decide +kernel, rfl, by decide +kernel, by decide +kernel⟩
abbrev s_Once___init__ : Stmt := inClass (top 13) 0
theorem sc_Once___init__ : FnScope ["self", "first", "last"] ["self", "first", "last"] (defScope s_Once___init__) := ⟨rfl, rfl, rfl, by decide +kernel, rfl, by decide +kernel, by decide +kernel⟩
abbrev s_Once_follow : Stmt := inClass (top 13) 2
theorem sc_Once_follow : FnScope ["self", "number", "settled"] ["self", "number", "settled"] (defScope s_Once_follow) := ⟨rfl, rfl, rfl, by decide +kernel, rfl, by decide +kernel, by decide +kernel⟩
abbrev s_Once_let_by : Stmt := inClass (top 13) 3
theorem sc_Once_let_by : FnScope ["self", "number", "last", "now"] ["self", "number", "last", "now"] (defScope s_Once_let_by) := ⟨rfl, rfl, rfl, by decide +kernel, rfl, by decide +kernel, by decide +kernel⟩
abbrev s_Once_words : Stmt := inClass (top 13) 4
theorem sc_Once_words : FnScope ["self"] ["self"] (defScope s_Once_words) := ⟨rfl, rfl, rfl, by decide +kernel, rfl, by decide +kernel, by decide +kernel⟩
abbrev s_Each___init__ : Stmt := inClass (top 14) 0
theorem sc_Each___init__ : FnScope ["self", "start", "step", "wide", "many"] ["self", "start", "step", "wide", "many"] (defScope s_Each___init__) := ⟨rfl, rfl, rfl, by decide +kernel, rfl, by decide +kernel, by decide +kernel⟩
abbrev s_Each_stretch_of : Stmt := inClass (top 14) 1
theorem sc_Each_stretch_of : FnScope ["self", "number", "first"] ["self", "number"] (defScope s_Each_stretch_of) := ⟨rfl, rfl, rfl, by decide +kernel, rfl, by decide +kernel, by decide +kernel⟩
abbrev s_Each_follow : Stmt := inClass (top 14) 3
theorem sc_Each_follow : FnScope ["self", "number", "settled"] ["self", "number", "settled"] (defScope s_Each_follow) := ⟨rfl, rfl, rfl, by decide +kernel, rfl, by decide +kernel, by decide +kernel⟩
abbrev s_Each_let_by : Stmt := inClass (top 14) 4
theorem sc_Each_let_by : FnScope ["self", "number", "last", "now", "end", "found"] ["self", "number", "last", "now"] (defScope s_Each_let_by) := ⟨rfl, rfl, rfl, by decide +kernel, rfl, by decide +kernel, by decide +kernel⟩
abbrev s_Each_words : Stmt := inClass (top 14) 5
theorem sc_Each_words : FnScope ["self"] ["self"] (defScope s_Each_words) := ⟨rfl, rfl, rfl, by decide +kernel, rfl, by decide +kernel, by decide +kernel⟩
abbrev s_Behind___init__ : Stmt := inClass (top 15) 0
theorem sc_Behind___init__ : FnScope ["self", "start", "gap", "wide", "many"] ["self", "start", "gap", "wide", "many"] (defScope s_Behind___init__) := ⟨rfl, rfl, rfl, by decide +kernel, rfl, by decide +kernel, by decide +kernel⟩
abbrev s_Behind_gap_ahead : Stmt := inClass (top 15) 1
theorem sc_Behind_gap_ahead : FnScope ["self", "number"] ["self", "number"] (defScope s_Behind_gap_ahead) := ⟨rfl, rfl, rfl, by decide +kernel, rfl, by decide +kernel, by decide +kernel⟩
abbrev s_Behind_follow : Stmt := inClass (top 15) 3
theorem sc_Behind_follow : FnScope ["self", "number", "settled", "first"] ["self", "number", "settled"] (defScope s_Behind_follow) := ⟨rfl, rfl, rfl, by decide +kernel, rfl, by decide +kernel, by decide +kernel⟩
abbrev s_Behind_let_by : Stmt := inClass (top 15) 4
theorem sc_Behind_let_by : FnScope ["self", "number", "last", "now"] ["self", "number", "last", "now"] (defScope s_Behind_let_by) := ⟨rfl, rfl, rfl, by decide +kernel, rfl, by decide +kernel, by decide +kernel⟩
abbrev s_Behind_leap : Stmt := inClass (top 15) 5
theorem sc_Behind_leap : FnScope ["self", "number", "end", "gap", "now", "span", "steps"] ["self", "number", "end", "gap", "now"] (defScope s_Behind_leap) := ⟨rfl, rfl, rfl, by decide +kernel, rfl, by decide +kernel, by decide +kernel⟩
abbrev s_Behind_words : Stmt := inClass (top 15) 6
theorem sc_Behind_words : FnScope ["self"] ["self"] (defScope s_Behind_words) := ⟨rfl, rfl, rfl, by decide +kernel, rfl, by decide +kernel, by decide +kernel⟩
abbrev s_Slowing___init__ : Stmt := inClass (top 16) 0
theorem sc_Slowing___init__ : FnScope ["self", "start", "gap", "most", "wide", "many"] ["self", "start", "gap", "most", "wide", "many"] (defScope s_Slowing___init__) := ⟨rfl, rfl, rfl, by decide +kernel, rfl, by decide +kernel, by decide +kernel⟩
abbrev s_Slowing_gap_ahead : Stmt := inClass (top 16) 1
theorem sc_Slowing_gap_ahead : FnScope ["self", "number", "gap", "left"] ["self", "number"] (defScope s_Slowing_gap_ahead) := ⟨rfl, rfl, rfl, by decide +kernel, rfl, by decide +kernel, by decide +kernel⟩
abbrev s_Slowing_let_by : Stmt := inClass (top 16) 2
theorem sc_Slowing_let_by : FnScope ["self", "number", "last", "now", "gap", "end"] ["self", "number", "last", "now"] (defScope s_Slowing_let_by) := ⟨rfl, rfl, rfl, by decide +kernel, rfl, by decide +kernel, by decide +kernel⟩
abbrev s_Slowing_words : Stmt := inClass (top 16) 3
theorem sc_Slowing_words : FnScope ["self"] ["self"] (defScope s_Slowing_words) := ⟨rfl, rfl, rfl, by decide +kernel, rfl, by decide +kernel, by decide +kernel⟩
abbrev s__law_cell_at : Stmt := top 18
theorem sc__law_cell_at : FnScope ["_law_script", "_law_k"] ["_law_script", "_law_k"] (defScope s__law_cell_at) := ⟨rfl, rfl, rfl, by decide +kernel, rfl, by decide +kernel, by decide +kernel⟩
abbrev s__law_number : Stmt := top 19
theorem sc__law_number : FnScope ["_law_cell"] ["_law_cell"] (defScope s__law_number) := ⟨rfl, rfl, rfl, by decide +kernel, rfl, by decide +kernel, by decide +kernel⟩
abbrev s__law_numbers : Stmt := top 20
theorem sc__law_numbers : FnScope ["_law_kind", "_law_script", "_law_bare_here", "_law_start", "_law_gap", "_law_wide", "_law_many"] ["_law_kind", "_law_script", "_law_bare_here"] (defScope s__law_numbers) := ⟨rfl, rfl, rfl, by decide +kernel, rfl, by decide +kernel, by decide +kernel⟩
abbrev s__law_made : Stmt := top 21
theorem sc__law_made : FnScope ["_law_kind", "_law_some"] ["_law_kind", "_law_some"] (defScope s__law_made) := ⟨rfl, rfl, rfl, by decide +kernel, rfl, by decide +kernel, by decide +kernel⟩
abbrev s__law_bare : Stmt := top 22
theorem sc__law_bare : FnScope ["_law_kind", "_law_some"] ["_law_kind", "_law_some"] (defScope s__law_bare) := ⟨rfl, rfl, rfl, by decide +kernel, rfl, by decide +kernel, by decide +kernel⟩
abbrev s__law_due : Stmt := top 23
theorem sc__law_due : FnScope ["_law_kind", "_law_some", "_law_found", "_law_number_here"] ["_law_kind", "_law_some"] (defScope s__law_due) := ⟨rfl, rfl, rfl, by decide +kernel, rfl, by decide +kernel, by decide +kernel⟩
abbrev s__law_says : Stmt := top 24
theorem sc__law_says : FnScope ["_law_rule", "_law_due_here", "_law_found"] ["_law_rule", "_law_due_here"] (defScope s__law_says) := ⟨rfl, rfl, rfl, by decide +kernel, rfl, by decide +kernel, by decide +kernel⟩
abbrev s_law : Stmt := top 25
theorem sc_law : FnScope ["_law_script", "_law_kind", "_law_bare_here", "_law_some", "_law_other", "_law_rule", "_law_beside", "_law_k"] ["_law_script"] (defScope s_law) := ⟨rfl, rfl, rfl, by decide +kernel, rfl, by decide +kernel, by decide +kernel⟩
theorem ne_many_first : ¬ (("many" : Str) = "first") := by decide +kernel
theorem ne_many_last : ¬ (("many" : Str) = "last") := by decide +kernel
theorem ne_many_start : ¬ (("many" : Str) = "start") := by decide +kernel
theorem ne_many_step : ¬ (("many" : Str) = "step") := by decide +kernel
theorem ne_many_wide : ¬ (("many" : Str) = "wide") := by decide +kernel
theorem ne_many_gap : ¬ (("many" : Str) = "gap") := by decide +kernel
theorem ne_many_most : ¬ (("many" : Str) = "most") := by decide +kernel
theorem ne_first_many : ¬ (("first" : Str) = "many") := by decide +kernel
theorem ne_first_last : ¬ (("first" : Str) = "last") := by decide +kernel
theorem ne_first_start : ¬ (("first" : Str) = "start") := by decide +kernel
theorem ne_first_step : ¬ (("first" : Str) = "step") := by decide +kernel
theorem ne_first_wide : ¬ (("first" : Str) = "wide") := by decide +kernel
theorem ne_first_gap : ¬ (("first" : Str) = "gap") := by decide +kernel
theorem ne_first_most : ¬ (("first" : Str) = "most") := by decide +kernel
theorem ne_last_many : ¬ (("last" : Str) = "many") := by decide +kernel
theorem ne_last_first : ¬ (("last" : Str) = "first") := by decide +kernel
theorem ne_last_start : ¬ (("last" : Str) = "start") := by decide +kernel
theorem ne_last_step : ¬ (("last" : Str) = "step") := by decide +kernel
theorem ne_last_wide : ¬ (("last" : Str) = "wide") := by decide +kernel
theorem ne_last_gap : ¬ (("last" : Str) = "gap") := by decide +kernel
theorem ne_last_most : ¬ (("last" : Str) = "most") := by decide +kernel
theorem ne_start_many : ¬ (("start" : Str) = "many") := by decide +kernel
theorem ne_start_first : ¬ (("start" : Str) = "first") := by decide +kernel
theorem ne_start_last : ¬ (("start" : Str) = "last") := by decide +kernel
theorem ne_start_step : ¬ (("start" : Str) = "step") := by decide +kernel
theorem ne_start_wide : ¬ (("start" : Str) = "wide") := by decide +kernel
theorem ne_start_gap : ¬ (("start" : Str) = "gap") := by decide +kernel
theorem ne_start_most : ¬ (("start" : Str) = "most") := by decide +kernel
theorem ne_step_many : ¬ (("step" : Str) = "many") := by decide +kernel
theorem ne_step_first : ¬ (("step" : Str) = "first") := by decide +kernel
theorem ne_step_last : ¬ (("step" : Str) = "last") := by decide +kernel
theorem ne_step_start : ¬ (("step" : Str) = "start") := by decide +kernel
theorem ne_step_wide : ¬ (("step" : Str) = "wide") := by decide +kernel
theorem ne_step_gap : ¬ (("step" : Str) = "gap") := by decide +kernel
theorem ne_step_most : ¬ (("step" : Str) = "most") := by decide +kernel
theorem ne_wide_many : ¬ (("wide" : Str) = "many") := by decide +kernel
theorem ne_wide_first : ¬ (("wide" : Str) = "first") := by decide +kernel
theorem ne_wide_last : ¬ (("wide" : Str) = "last") := by decide +kernel
theorem ne_wide_start : ¬ (("wide" : Str) = "start") := by decide +kernel
theorem ne_wide_step : ¬ (("wide" : Str) = "step") := by decide +kernel
theorem ne_wide_gap : ¬ (("wide" : Str) = "gap") := by decide +kernel
theorem ne_wide_most : ¬ (("wide" : Str) = "most") := by decide +kernel
theorem ne_gap_many : ¬ (("gap" : Str) = "many") := by decide +kernel
theorem ne_gap_first : ¬ (("gap" : Str) = "first") := by decide +kernel
theorem ne_gap_last : ¬ (("gap" : Str) = "last") := by decide +kernel
theorem ne_gap_start : ¬ (("gap" : Str) = "start") := by decide +kernel
theorem ne_gap_step : ¬ (("gap" : Str) = "step") := by decide +kernel
theorem ne_gap_wide : ¬ (("gap" : Str) = "wide") := by decide +kernel
theorem ne_gap_most : ¬ (("gap" : Str) = "most") := by decide +kernel
theorem ne_most_many : ¬ (("most" : Str) = "many") := by decide +kernel
theorem ne_most_first : ¬ (("most" : Str) = "first") := by decide +kernel
theorem ne_most_last : ¬ (("most" : Str) = "last") := by decide +kernel
theorem ne_most_start : ¬ (("most" : Str) = "start") := by decide +kernel
theorem ne_most_step : ¬ (("most" : Str) = "step") := by decide +kernel
theorem ne_most_wide : ¬ (("most" : Str) = "wide") := by decide +kernel
theorem ne_most_gap : ¬ (("most" : Str) = "gap") := by decide +kernel
theorem ne___init___many : ¬ (("__init__" : Str) = "many") := by decide +kernel
theorem ne___init___first : ¬ (("__init__" : Str) = "first") := by decide +kernel
theorem ne___init___last : ¬ (("__init__" : Str) = "last") := by decide +kernel
theorem ne___init___start : ¬ (("__init__" : Str) = "start") := by decide +kernel
theorem ne___init___step : ¬ (("__init__" : Str) = "step") := by decide +kernel
theorem ne___init___wide : ¬ (("__init__" : Str) = "wide") := by decide +kernel
theorem ne___init___gap : ¬ (("__init__" : Str) = "gap") := by decide +kernel
theorem ne___init___most : ¬ (("__init__" : Str) = "most") := by decide +kernel
theorem ne_begin_many : ¬ (("begin" : Str) = "many") := by decide +kernel
theorem ne_begin_first : ¬ (("begin" : Str) = "first") := by decide +kernel
theorem ne_begin_last : ¬ (("begin" : Str) = "last") := by decide +kernel
theorem ne_begin_start : ¬ (("begin" : Str) = "start") := by decide +kernel
theorem ne_begin_step : ¬ (("begin" : Str) = "step") := by decide +kernel
theorem ne_begin_wide : ¬ (("begin" : Str) = "wide") := by decide +kernel
theorem ne_begin_gap : ¬ (("begin" : Str) = "gap") := by decide +kernel
theorem ne_begin_most : ¬ (("begin" : Str) = "most") := by decide +kernel
theorem ne_follow_many : ¬ (("follow" : Str) = "many") := by decide +kernel
theorem ne_follow_first : ¬ (("follow" : Str) = "first") := by decide +kernel
theorem ne_follow_last : ¬ (("follow" : Str) = "last") := by decide +kernel
theorem ne_follow_start : ¬ (("follow" : Str) = "start") := by decide +kernel
theorem ne_follow_step : ¬ (("follow" : Str) = "step") := by decide +kernel
theorem ne_follow_wide : ¬ (("follow" : Str) = "wide") := by decide +kernel
theorem ne_follow_gap : ¬ (("follow" : Str) = "gap") := by decide +kernel
theorem ne_follow_most : ¬ (("follow" : Str) = "most") := by decide +kernel
theorem ne_let_by_many : ¬ (("let_by" : Str) = "many") := by decide +kernel
theorem ne_let_by_first : ¬ (("let_by" : Str) = "first") := by decide +kernel
theorem ne_let_by_last : ¬ (("let_by" : Str) = "last") := by decide +kernel
theorem ne_let_by_start : ¬ (("let_by" : Str) = "start") := by decide +kernel
theorem ne_let_by_step : ¬ (("let_by" : Str) = "step") := by decide +kernel
theorem ne_let_by_wide : ¬ (("let_by" : Str) = "wide") := by decide +kernel
theorem ne_let_by_gap : ¬ (("let_by" : Str) = "gap") := by decide +kernel
theorem ne_let_by_most : ¬ (("let_by" : Str) = "most") := by decide +kernel
theorem ne_words_many : ¬ (("words" : Str) = "many") := by decide +kernel
theorem ne_words_first : ¬ (("words" : Str) = "first") := by decide +kernel
theorem ne_words_last : ¬ (("words" : Str) = "last") := by decide +kernel
theorem ne_words_start : ¬ (("words" : Str) = "start") := by decide +kernel
theorem ne_words_step : ¬ (("words" : Str) = "step") := by decide +kernel
theorem ne_words_wide : ¬ (("words" : Str) = "wide") := by decide +kernel
theorem ne_words_gap : ¬ (("words" : Str) = "gap") := by decide +kernel
theorem ne_words_most : ¬ (("words" : Str) = "most") := by decide +kernel
theorem ne_twin_many : ¬ (("twin" : Str) = "many") := by decide +kernel
theorem ne_twin_first : ¬ (("twin" : Str) = "first") := by decide +kernel
theorem ne_twin_last : ¬ (("twin" : Str) = "last") := by decide +kernel
theorem ne_twin_start : ¬ (("twin" : Str) = "start") := by decide +kernel
theorem ne_twin_step : ¬ (("twin" : Str) = "step") := by decide +kernel
theorem ne_twin_wide : ¬ (("twin" : Str) = "wide") := by decide +kernel
theorem ne_twin_gap : ¬ (("twin" : Str) = "gap") := by decide +kernel
theorem ne_twin_most : ¬ (("twin" : Str) = "most") := by decide +kernel
theorem ne_place_of_many : ¬ (("place_of" : Str) = "many") := by decide +kernel
theorem ne_place_of_first : ¬ (("place_of" : Str) = "first") := by decide +kernel
theorem ne_place_of_last : ¬ (("place_of" : Str) = "last") := by decide +kernel
theorem ne_place_of_start : ¬ (("place_of" : Str) = "start") := by decide +kernel
theorem ne_place_of_step : ¬ (("place_of" : Str) = "step") := by decide +kernel
theorem ne_place_of_wide : ¬ (("place_of" : Str) = "wide") := by decide +kernel
theorem ne_place_of_gap : ¬ (("place_of" : Str) = "gap") := by decide +kernel
theorem ne_place_of_most : ¬ (("place_of" : Str) = "most") := by decide +kernel
theorem ne_stretch_of_many : ¬ (("stretch_of" : Str) = "many") := by decide +kernel
theorem ne_stretch_of_first : ¬ (("stretch_of" : Str) = "first") := by decide +kernel
theorem ne_stretch_of_last : ¬ (("stretch_of" : Str) = "last") := by decide +kernel
theorem ne_stretch_of_start : ¬ (("stretch_of" : Str) = "start") := by decide +kernel
theorem ne_stretch_of_step : ¬ (("stretch_of" : Str) = "step") := by decide +kernel
theorem ne_stretch_of_wide : ¬ (("stretch_of" : Str) = "wide") := by decide +kernel
theorem ne_stretch_of_gap : ¬ (("stretch_of" : Str) = "gap") := by decide +kernel
theorem ne_stretch_of_most : ¬ (("stretch_of" : Str) = "most") := by decide +kernel
theorem ne_gap_ahead_many : ¬ (("gap_ahead" : Str) = "many") := by decide +kernel
theorem ne_gap_ahead_first : ¬ (("gap_ahead" : Str) = "first") := by decide +kernel
theorem ne_gap_ahead_last : ¬ (("gap_ahead" : Str) = "last") := by decide +kernel
theorem ne_gap_ahead_start : ¬ (("gap_ahead" : Str) = "start") := by decide +kernel
theorem ne_gap_ahead_step : ¬ (("gap_ahead" : Str) = "step") := by decide +kernel
theorem ne_gap_ahead_wide : ¬ (("gap_ahead" : Str) = "wide") := by decide +kernel
theorem ne_gap_ahead_gap : ¬ (("gap_ahead" : Str) = "gap") := by decide +kernel
theorem ne_gap_ahead_most : ¬ (("gap_ahead" : Str) = "most") := by decide +kernel
theorem ne_leap_many : ¬ (("leap" : Str) = "many") := by decide +kernel
theorem ne_leap_first : ¬ (("leap" : Str) = "first") := by decide +kernel
theorem ne_leap_last : ¬ (("leap" : Str) = "last") := by decide +kernel
theorem ne_leap_start : ¬ (("leap" : Str) = "start") := by decide +kernel
theorem ne_leap_step : ¬ (("leap" : Str) = "step") := by decide +kernel
theorem ne_leap_wide : ¬ (("leap" : Str) = "wide") := by decide +kernel
theorem ne_leap_gap : ¬ (("leap" : Str) = "gap") := by decide +kernel
theorem ne_leap_most : ¬ (("leap" : Str) = "most") := by decide +kernel
local macro_rules | `(tactic| walk_at "lk") => `(tactic| first
  | assumption
  | (rw [lookup_look]; ((conv => lhs; simp only [look, reduceIte, fOnce, fEach, fBehind, fSlowing, ne_many_first, ne_many_last, ne_many_start, ne_many_step, ne_many_wide, ne_many_gap, ne_many_most, ne_first_many, ne_first_last, ne_first_start, ne_first_step, ne_first_wide, ne_first_gap, ne_first_most, ne_last_many, ne_last_first, ne_last_start, ne_last_step, ne_last_wide, ne_last_gap, ne_last_most, ne_start_many, ne_start_first, ne_start_last, ne_start_step, ne_start_wide, ne_start_gap, ne_start_most, ne_step_many, ne_step_first, ne_step_last, ne_step_start, ne_step_wide, ne_step_gap, ne_step_most, ne_wide_many, ne_wide_first, ne_wide_last, ne_wide_start, ne_wide_step, ne_wide_gap, ne_wide_most, ne_gap_many, ne_gap_first, ne_gap_last, ne_gap_start, ne_gap_step, ne_gap_wide, ne_gap_most, ne_most_many, ne_most_first, ne_most_last, ne_most_start, ne_most_step, ne_most_wide, ne_most_gap, ne___init___many, ne___init___first, ne___init___last, ne___init___start, ne___init___step, ne___init___wide, ne___init___gap, ne___init___most, ne_begin_many, ne_begin_first, ne_begin_last, ne_begin_start, ne_begin_step, ne_begin_wide, ne_begin_gap, ne_begin_most, ne_follow_many, ne_follow_first, ne_follow_last, ne_follow_start, ne_follow_step, ne_follow_wide, ne_follow_gap, ne_follow_most, ne_let_by_many, ne_let_by_first, ne_let_by_last, ne_let_by_start, ne_let_by_step, ne_let_by_wide, ne_let_by_gap, ne_let_by_most, ne_words_many, ne_words_first, ne_words_last, ne_words_start, ne_words_step, ne_words_wide, ne_words_gap, ne_words_most, ne_twin_many, ne_twin_first, ne_twin_last, ne_twin_start, ne_twin_step, ne_twin_wide, ne_twin_gap, ne_twin_most, ne_place_of_many, ne_place_of_first, ne_place_of_last, ne_place_of_start, ne_place_of_step, ne_place_of_wide, ne_place_of_gap, ne_place_of_most, ne_stretch_of_many, ne_stretch_of_first, ne_stretch_of_last, ne_stretch_of_start, ne_stretch_of_step, ne_stretch_of_wide, ne_stretch_of_gap, ne_stretch_of_most, ne_gap_ahead_many, ne_gap_ahead_first, ne_gap_ahead_last, ne_gap_ahead_start, ne_gap_ahead_step, ne_gap_ahead_wide, ne_gap_ahead_gap, ne_gap_ahead_most, ne_leap_many, ne_leap_first, ne_leap_last, ne_leap_start, ne_leap_step, ne_leap_wide, ne_leap_gap, ne_leap_most]) <;> exact rfl)))
local macro_rules | `(tactic| walk_at "put") => `(tactic| ((conv => lhs; simp only [putF, reduceIte, fOnce, fEach, fBehind, fSlowing, ne_many_first, ne_many_last, ne_many_start, ne_many_step, ne_many_wide, ne_many_gap, ne_many_most, ne_first_many, ne_first_last, ne_first_start, ne_first_step, ne_first_wide, ne_first_gap, ne_first_most, ne_last_many, ne_last_first, ne_last_start, ne_last_step, ne_last_wide, ne_last_gap, ne_last_most, ne_start_many, ne_start_first, ne_start_last, ne_start_step, ne_start_wide, ne_start_gap, ne_start_most, ne_step_many, ne_step_first, ne_step_last, ne_step_start, ne_step_wide, ne_step_gap, ne_step_most, ne_wide_many, ne_wide_first, ne_wide_last, ne_wide_start, ne_wide_step, ne_wide_gap, ne_wide_most, ne_gap_many, ne_gap_first, ne_gap_last, ne_gap_start, ne_gap_step, ne_gap_wide, ne_gap_most, ne_most_many, ne_most_first, ne_most_last, ne_most_start, ne_most_step, ne_most_wide, ne_most_gap, ne___init___many, ne___init___first, ne___init___last, ne___init___start, ne___init___step, ne___init___wide, ne___init___gap, ne___init___most, ne_begin_many, ne_begin_first, ne_begin_last, ne_begin_start, ne_begin_step, ne_begin_wide, ne_begin_gap, ne_begin_most, ne_follow_many, ne_follow_first, ne_follow_last, ne_follow_start, ne_follow_step, ne_follow_wide, ne_follow_gap, ne_follow_most, ne_let_by_many, ne_let_by_first, ne_let_by_last, ne_let_by_start, ne_let_by_step, ne_let_by_wide, ne_let_by_gap, ne_let_by_most, ne_words_many, ne_words_first, ne_words_last, ne_words_start, ne_words_step, ne_words_wide, ne_words_gap, ne_words_most, ne_twin_many, ne_twin_first, ne_twin_last, ne_twin_start, ne_twin_step, ne_twin_wide, ne_twin_gap, ne_twin_most, ne_place_of_many, ne_place_of_first, ne_place_of_last, ne_place_of_start, ne_place_of_step, ne_place_of_wide, ne_place_of_gap, ne_place_of_most, ne_stretch_of_many, ne_stretch_of_first, ne_stretch_of_last, ne_stretch_of_start, ne_stretch_of_step, ne_stretch_of_wide, ne_stretch_of_gap, ne_stretch_of_most, ne_gap_ahead_many, ne_gap_ahead_first, ne_gap_ahead_last, ne_gap_ahead_start, ne_gap_ahead_step, ne_gap_ahead_wide, ne_gap_ahead_gap, ne_gap_ahead_most, ne_leap_many, ne_leap_first, ne_leap_last, ne_leap_start, ne_leap_step, ne_leap_wide, ne_leap_gap, ne_leap_most]) <;> exact rfl))
set_option genSizeOf false in
set_option genInjectivity false in
structure Ad where
  f_is_whole : Addr
  fd_is_whole : FuncData
  f_figures : Addr
  fd_figures : FuncData
  f_check_from : Addr
  fd_check_from : FuncData
  f_spans_over : Addr
  fd_spans_over : FuncData
  f_word_of : Addr
  fd_word_of : FuncData
  f_row_of : Addr
  fd_row_of : FuncData
  f_Rule___init__ : Addr
  fd_Rule___init__ : FuncData
  f_Rule_place_of : Addr
  fd_Rule_place_of : FuncData
  f_Once___init__ : Addr
  fd_Once___init__ : FuncData
  dT_Once___init__ : Addr
  f_Once_follow : Addr
  fd_Once_follow : FuncData
  f_Once_let_by : Addr
  fd_Once_let_by : FuncData
  f_Once_words : Addr
  fd_Once_words : FuncData
  f_Each___init__ : Addr
  fd_Each___init__ : FuncData
  dT_Each___init__ : Addr
  tk_Each___init___0 : Tok
  f_Each_stretch_of : Addr
  fd_Each_stretch_of : FuncData
  f_Each_follow : Addr
  fd_Each_follow : FuncData
  f_Each_let_by : Addr
  fd_Each_let_by : FuncData
  f_Each_words : Addr
  fd_Each_words : FuncData
  f_Behind___init__ : Addr
  fd_Behind___init__ : FuncData
  dT_Behind___init__ : Addr
  tk_Behind___init___0 : Tok
  f_Behind_gap_ahead : Addr
  fd_Behind_gap_ahead : FuncData
  f_Behind_follow : Addr
  fd_Behind_follow : FuncData
  f_Behind_let_by : Addr
  fd_Behind_let_by : FuncData
  f_Behind_leap : Addr
  fd_Behind_leap : FuncData
  f_Behind_words : Addr
  fd_Behind_words : FuncData
  f_Slowing___init__ : Addr
  fd_Slowing___init__ : FuncData
  dT_Slowing___init__ : Addr
  tk_Slowing___init___0 : Tok
  f_Slowing_gap_ahead : Addr
  fd_Slowing_gap_ahead : FuncData
  f_Slowing_let_by : Addr
  fd_Slowing_let_by : FuncData
  f_Slowing_words : Addr
  fd_Slowing_words : FuncData
  f__law_cell_at : Addr
  fd__law_cell_at : FuncData
  f__law_number : Addr
  fd__law_number : FuncData
  f__law_numbers : Addr
  fd__law_numbers : FuncData
  f__law_made : Addr
  fd__law_made : FuncData
  f__law_bare : Addr
  fd__law_bare : FuncData
  f__law_due : Addr
  fd__law_due : FuncData
  f__law_says : Addr
  fd__law_says : FuncData
  f_law : Addr
  fd_law : FuncData
  C_Rule : Addr
  C_Once : Addr
  C_Each : Addr
  C_Behind : Addr
  C_Slowing : Addr
structure Txt (K : PySem.W.Frag) (mg : Str → Option Value) (a : Ad) : Prop where
  F_is_whole : FunD K "is_whole" "is_whole" s_is_whole a.f_is_whole (.none) a.fd_is_whole
  kp_is_whole : PySem.W.keepIn K (.ref a.f_is_whole) = true
  mg_is_whole : mg "is_whole" = some (.ref a.f_is_whole)
  F_figures : FunD K "figures" "figures" s_figures a.f_figures (.none) a.fd_figures
  kp_figures : PySem.W.keepIn K (.ref a.f_figures) = true
  mg_figures : mg "figures" = some (.ref a.f_figures)
  F_check_from : FunD K "check_from" "check_from" s_check_from a.f_check_from (.none) a.fd_check_from
  kp_check_from : PySem.W.keepIn K (.ref a.f_check_from) = true
  mg_check_from : mg "check_from" = some (.ref a.f_check_from)
  F_spans_over : FunD K "spans_over" "spans_over" s_spans_over a.f_spans_over (.none) a.fd_spans_over
  kp_spans_over : PySem.W.keepIn K (.ref a.f_spans_over) = true
  mg_spans_over : mg "spans_over" = some (.ref a.f_spans_over)
  F_word_of : FunD K "word_of" "word_of" s_word_of a.f_word_of (.none) a.fd_word_of
  kp_word_of : PySem.W.keepIn K (.ref a.f_word_of) = true
  mg_word_of : mg "word_of" = some (.ref a.f_word_of)
  F_row_of : FunD K "row_of" "row_of" s_row_of a.f_row_of (.none) a.fd_row_of
  kp_row_of : PySem.W.keepIn K (.ref a.f_row_of) = true
  mg_row_of : mg "row_of" = some (.ref a.f_row_of)
  F_Rule___init__ : FunD K "__init__" "Rule.__init__" s_Rule___init__ a.f_Rule___init__ (.none) a.fd_Rule___init__
  kp_Rule___init__ : PySem.W.keepIn K (.ref a.f_Rule___init__) = true
  F_Rule_place_of : FunD K "place_of" "Rule.place_of" s_Rule_place_of a.f_Rule_place_of (.none) a.fd_Rule_place_of
  kp_Rule_place_of : PySem.W.keepIn K (.ref a.f_Rule_place_of) = true
  F_Once___init__ : FunD K "__init__" "Once.__init__" s_Once___init__ a.f_Once___init__ (.ref a.dT_Once___init__) a.fd_Once___init__
  kp_Once___init__ : PySem.W.keepIn K (.ref a.f_Once___init__) = true
  D_Once___init__ : DefT K a.dT_Once___init__ #[.none]
  F_Once_follow : FunD K "follow" "Once.follow" s_Once_follow a.f_Once_follow (.none) a.fd_Once_follow
  kp_Once_follow : PySem.W.keepIn K (.ref a.f_Once_follow) = true
  F_Once_let_by : FunD K "let_by" "Once.let_by" s_Once_let_by a.f_Once_let_by (.none) a.fd_Once_let_by
  kp_Once_let_by : PySem.W.keepIn K (.ref a.f_Once_let_by) = true
  F_Once_words : FunD K "words" "Once.words" s_Once_words a.f_Once_words (.none) a.fd_Once_words
  kp_Once_words : PySem.W.keepIn K (.ref a.f_Once_words) = true
  F_Each___init__ : FunD K "__init__" "Each.__init__" s_Each___init__ a.f_Each___init__ (.ref a.dT_Each___init__) a.fd_Each___init__
  kp_Each___init__ : PySem.W.keepIn K (.ref a.f_Each___init__) = true
  D_Each___init__ : DefT K a.dT_Each___init__ #[(.int 0 a.tk_Each___init___0), .none]
  F_Each_stretch_of : FunD K "stretch_of" "Each.stretch_of" s_Each_stretch_of a.f_Each_stretch_of (.none) a.fd_Each_stretch_of
  kp_Each_stretch_of : PySem.W.keepIn K (.ref a.f_Each_stretch_of) = true
  F_Each_follow : FunD K "follow" "Each.follow" s_Each_follow a.f_Each_follow (.none) a.fd_Each_follow
  kp_Each_follow : PySem.W.keepIn K (.ref a.f_Each_follow) = true
  F_Each_let_by : FunD K "let_by" "Each.let_by" s_Each_let_by a.f_Each_let_by (.none) a.fd_Each_let_by
  kp_Each_let_by : PySem.W.keepIn K (.ref a.f_Each_let_by) = true
  F_Each_words : FunD K "words" "Each.words" s_Each_words a.f_Each_words (.none) a.fd_Each_words
  kp_Each_words : PySem.W.keepIn K (.ref a.f_Each_words) = true
  F_Behind___init__ : FunD K "__init__" "Behind.__init__" s_Behind___init__ a.f_Behind___init__ (.ref a.dT_Behind___init__) a.fd_Behind___init__
  kp_Behind___init__ : PySem.W.keepIn K (.ref a.f_Behind___init__) = true
  D_Behind___init__ : DefT K a.dT_Behind___init__ #[(.int 0 a.tk_Behind___init___0), .none]
  F_Behind_gap_ahead : FunD K "gap_ahead" "Behind.gap_ahead" s_Behind_gap_ahead a.f_Behind_gap_ahead (.none) a.fd_Behind_gap_ahead
  kp_Behind_gap_ahead : PySem.W.keepIn K (.ref a.f_Behind_gap_ahead) = true
  F_Behind_follow : FunD K "follow" "Behind.follow" s_Behind_follow a.f_Behind_follow (.none) a.fd_Behind_follow
  kp_Behind_follow : PySem.W.keepIn K (.ref a.f_Behind_follow) = true
  F_Behind_let_by : FunD K "let_by" "Behind.let_by" s_Behind_let_by a.f_Behind_let_by (.none) a.fd_Behind_let_by
  kp_Behind_let_by : PySem.W.keepIn K (.ref a.f_Behind_let_by) = true
  F_Behind_leap : FunD K "leap" "Behind.leap" s_Behind_leap a.f_Behind_leap (.none) a.fd_Behind_leap
  kp_Behind_leap : PySem.W.keepIn K (.ref a.f_Behind_leap) = true
  F_Behind_words : FunD K "words" "Behind.words" s_Behind_words a.f_Behind_words (.none) a.fd_Behind_words
  kp_Behind_words : PySem.W.keepIn K (.ref a.f_Behind_words) = true
  F_Slowing___init__ : FunD K "__init__" "Slowing.__init__" s_Slowing___init__ a.f_Slowing___init__ (.ref a.dT_Slowing___init__) a.fd_Slowing___init__
  kp_Slowing___init__ : PySem.W.keepIn K (.ref a.f_Slowing___init__) = true
  D_Slowing___init__ : DefT K a.dT_Slowing___init__ #[(.int 0 a.tk_Slowing___init___0), .none]
  F_Slowing_gap_ahead : FunD K "gap_ahead" "Slowing.gap_ahead" s_Slowing_gap_ahead a.f_Slowing_gap_ahead (.none) a.fd_Slowing_gap_ahead
  kp_Slowing_gap_ahead : PySem.W.keepIn K (.ref a.f_Slowing_gap_ahead) = true
  F_Slowing_let_by : FunD K "let_by" "Slowing.let_by" s_Slowing_let_by a.f_Slowing_let_by (.none) a.fd_Slowing_let_by
  kp_Slowing_let_by : PySem.W.keepIn K (.ref a.f_Slowing_let_by) = true
  F_Slowing_words : FunD K "words" "Slowing.words" s_Slowing_words a.f_Slowing_words (.none) a.fd_Slowing_words
  kp_Slowing_words : PySem.W.keepIn K (.ref a.f_Slowing_words) = true
  F__law_cell_at : FunD K "_law_cell_at" "_law_cell_at" s__law_cell_at a.f__law_cell_at (.none) a.fd__law_cell_at
  kp__law_cell_at : PySem.W.keepIn K (.ref a.f__law_cell_at) = true
  mg__law_cell_at : mg "_law_cell_at" = some (.ref a.f__law_cell_at)
  F__law_number : FunD K "_law_number" "_law_number" s__law_number a.f__law_number (.none) a.fd__law_number
  kp__law_number : PySem.W.keepIn K (.ref a.f__law_number) = true
  mg__law_number : mg "_law_number" = some (.ref a.f__law_number)
  F__law_numbers : FunD K "_law_numbers" "_law_numbers" s__law_numbers a.f__law_numbers (.none) a.fd__law_numbers
  kp__law_numbers : PySem.W.keepIn K (.ref a.f__law_numbers) = true
  mg__law_numbers : mg "_law_numbers" = some (.ref a.f__law_numbers)
  F__law_made : FunD K "_law_made" "_law_made" s__law_made a.f__law_made (.none) a.fd__law_made
  kp__law_made : PySem.W.keepIn K (.ref a.f__law_made) = true
  mg__law_made : mg "_law_made" = some (.ref a.f__law_made)
  F__law_bare : FunD K "_law_bare" "_law_bare" s__law_bare a.f__law_bare (.none) a.fd__law_bare
  kp__law_bare : PySem.W.keepIn K (.ref a.f__law_bare) = true
  mg__law_bare : mg "_law_bare" = some (.ref a.f__law_bare)
  F__law_due : FunD K "_law_due" "_law_due" s__law_due a.f__law_due (.none) a.fd__law_due
  kp__law_due : PySem.W.keepIn K (.ref a.f__law_due) = true
  mg__law_due : mg "_law_due" = some (.ref a.f__law_due)
  F__law_says : FunD K "_law_says" "_law_says" s__law_says a.f__law_says (.none) a.fd__law_says
  kp__law_says : PySem.W.keepIn K (.ref a.f__law_says) = true
  mg__law_says : mg "_law_says" = some (.ref a.f__law_says)
  F_law : FunD K "law" "law" s_law a.f_law (.none) a.fd_law
  kp_law : PySem.W.keepIn K (.ref a.f_law) = true
  mg_law : mg "law" = some (.ref a.f_law)
  mg_Rule : mg "Rule" = some (.ref a.C_Rule)
  cl_Rule : Cls K a.C_Rule
  M_Rule : Mk K a.C_Rule a.f_Rule___init__
  m_Rule_place_of : Meth K a.C_Rule "place_of" a.f_Rule_place_of
  ty_Rule : TyCls K a.C_Rule
  mg_Once : mg "Once" = some (.ref a.C_Once)
  cl_Once : Cls K a.C_Once
  na_Once_many : NoAttr K a.C_Once "many"
  na_Once_first : NoAttr K a.C_Once "first"
  na_Once_last : NoAttr K a.C_Once "last"
  M_Once : Mk K a.C_Once a.f_Once___init__
  m_Once_follow : Meth K a.C_Once "follow" a.f_Once_follow
  m_Once_let_by : Meth K a.C_Once "let_by" a.f_Once_let_by
  m_Once_words : Meth K a.C_Once "words" a.f_Once_words
  m_Once_place_of : Meth K a.C_Once "place_of" a.f_Rule_place_of
  ty_Once : TyCls K a.C_Once
  mg_Each : mg "Each" = some (.ref a.C_Each)
  cl_Each : Cls K a.C_Each
  na_Each_many : NoAttr K a.C_Each "many"
  na_Each_start : NoAttr K a.C_Each "start"
  na_Each_step : NoAttr K a.C_Each "step"
  na_Each_wide : NoAttr K a.C_Each "wide"
  M_Each : Mk K a.C_Each a.f_Each___init__
  m_Each_stretch_of : Meth K a.C_Each "stretch_of" a.f_Each_stretch_of
  m_Each_follow : Meth K a.C_Each "follow" a.f_Each_follow
  m_Each_let_by : Meth K a.C_Each "let_by" a.f_Each_let_by
  m_Each_words : Meth K a.C_Each "words" a.f_Each_words
  m_Each_place_of : Meth K a.C_Each "place_of" a.f_Rule_place_of
  ty_Each : TyCls K a.C_Each
  mg_Behind : mg "Behind" = some (.ref a.C_Behind)
  cl_Behind : Cls K a.C_Behind
  na_Behind_many : NoAttr K a.C_Behind "many"
  na_Behind_start : NoAttr K a.C_Behind "start"
  na_Behind_gap : NoAttr K a.C_Behind "gap"
  na_Behind_wide : NoAttr K a.C_Behind "wide"
  M_Behind : Mk K a.C_Behind a.f_Behind___init__
  m_Behind_gap_ahead : Meth K a.C_Behind "gap_ahead" a.f_Behind_gap_ahead
  m_Behind_follow : Meth K a.C_Behind "follow" a.f_Behind_follow
  m_Behind_let_by : Meth K a.C_Behind "let_by" a.f_Behind_let_by
  m_Behind_leap : Meth K a.C_Behind "leap" a.f_Behind_leap
  m_Behind_words : Meth K a.C_Behind "words" a.f_Behind_words
  m_Behind_place_of : Meth K a.C_Behind "place_of" a.f_Rule_place_of
  ty_Behind : TyCls K a.C_Behind
  mg_Slowing : mg "Slowing" = some (.ref a.C_Slowing)
  cl_Slowing : Cls K a.C_Slowing
  na_Slowing_many : NoAttr K a.C_Slowing "many"
  na_Slowing_start : NoAttr K a.C_Slowing "start"
  na_Slowing_gap : NoAttr K a.C_Slowing "gap"
  na_Slowing_wide : NoAttr K a.C_Slowing "wide"
  na_Slowing_most : NoAttr K a.C_Slowing "most"
  M_Slowing : Mk K a.C_Slowing a.f_Slowing___init__
  m_Slowing_gap_ahead : Meth K a.C_Slowing "gap_ahead" a.f_Slowing_gap_ahead
  m_Slowing_let_by : Meth K a.C_Slowing "let_by" a.f_Slowing_let_by
  m_Slowing_words : Meth K a.C_Slowing "words" a.f_Slowing_words
  m_Slowing_follow : Meth K a.C_Slowing "follow" a.f_Behind_follow
  m_Slowing_leap : Meth K a.C_Slowing "leap" a.f_Behind_leap
  m_Slowing_place_of : Meth K a.C_Slowing "place_of" a.f_Rule_place_of
  ty_Slowing : TyCls K a.C_Slowing
  B_Behind___init__ : BaseM K a.C_Behind "__init__" a.f_Behind___init__
  B_Rule___init__ : BaseM K a.C_Rule "__init__" a.f_Rule___init__
  no_bool : mg "bool" = none
  no_int : mg "int" = none
  no_isinstance : mg "isinstance" = none
  no_len : mg "len" = none
  no_max : mg "max" = none
  no_min : mg "min" = none
  no_range : mg "range" = none
  no_str : mg "str" = none
theorem txt_mk {K : PySem.W.Frag} {h : Heap} {mg : Str → Option Value} {f_is_whole f_figures f_check_from f_spans_over f_word_of f_row_of f_Rule___init__ f_Rule_place_of f_Once___init__ dT_Once___init__ f_Once_follow f_Once_let_by f_Once_words f_Each___init__ dT_Each___init__ f_Each_stretch_of f_Each_follow f_Each_let_by f_Each_words f_Behind___init__ dT_Behind___init__ f_Behind_gap_ahead f_Behind_follow f_Behind_let_by f_Behind_leap f_Behind_words f_Slowing___init__ dT_Slowing___init__ f_Slowing_gap_ahead f_Slowing_let_by f_Slowing_words f__law_cell_at f__law_number f__law_numbers f__law_made f__law_bare f__law_due f__law_says f_law C_Rule C_Once C_Each C_Behind C_Slowing : Addr} {tk_Each___init___0 tk_Behind___init___0 tk_Slowing___init___0 : Tok} {od_is_whole an_is_whole : Option Addr} {sl_is_whole : Array (Option Value)} {oc_is_whole kV_is_whole dc_is_whole pm_is_whole cd_is_whole ct_is_whole : Value} {od_figures an_figures : Option Addr} {sl_figures : Array (Option Value)} {oc_figures kV_figures dc_figures pm_figures cd_figures ct_figures : Value} {od_check_from an_check_from : Option Addr} {sl_check_from : Array (Option Value)} {oc_check_from kV_check_from dc_check_from pm_check_from cd_check_from ct_check_from : Value} {od_spans_over an_spans_over : Option Addr} {sl_spans_over : Array (Option Value)} {oc_spans_over kV_spans_over dc_spans_over pm_spans_over cd_spans_over ct_spans_over : Value} {od_word_of an_word_of : Option Addr} {sl_word_of : Array (Option Value)} {oc_word_of kV_word_of dc_word_of pm_word_of cd_word_of ct_word_of : Value} {od_row_of an_row_of : Option Addr} {sl_row_of : Array (Option Value)} {oc_row_of kV_row_of dc_row_of pm_row_of cd_row_of ct_row_of : Value} {od_Rule___init__ an_Rule___init__ : Option Addr} {sl_Rule___init__ : Array (Option Value)} {oc_Rule___init__ kV_Rule___init__ dc_Rule___init__ pm_Rule___init__ cd_Rule___init__ ct_Rule___init__ : Value} {od_Rule_place_of an_Rule_place_of : Option Addr} {sl_Rule_place_of : Array (Option Value)} {oc_Rule_place_of kV_Rule_place_of dc_Rule_place_of pm_Rule_place_of cd_Rule_place_of ct_Rule_place_of : Value} {od_Once___init__ an_Once___init__ : Option Addr} {sl_Once___init__ : Array (Option Value)} {oc_Once___init__ kV_Once___init__ dc_Once___init__ pm_Once___init__ cd_Once___init__ ct_Once___init__ : Value} {dn_Once___init__ : Nat} {dd_Once___init__ : Option Addr} {ds_Once___init__ : Array (Option Value)} {dc2_Once___init__ : Value} {od_Once_follow an_Once_follow : Option Addr} {sl_Once_follow : Array (Option Value)} {oc_Once_follow kV_Once_follow dc_Once_follow pm_Once_follow cd_Once_follow ct_Once_follow : Value} {od_Once_let_by an_Once_let_by : Option Addr} {sl_Once_let_by : Array (Option Value)} {oc_Once_let_by kV_Once_let_by dc_Once_let_by pm_Once_let_by cd_Once_let_by ct_Once_let_by : Value} {od_Once_words an_Once_words : Option Addr} {sl_Once_words : Array (Option Value)} {oc_Once_words kV_Once_words dc_Once_words pm_Once_words cd_Once_words ct_Once_words : Value} {od_Each___init__ an_Each___init__ : Option Addr} {sl_Each___init__ : Array (Option Value)} {oc_Each___init__ kV_Each___init__ dc_Each___init__ pm_Each___init__ cd_Each___init__ ct_Each___init__ : Value} {dn_Each___init__ : Nat} {dd_Each___init__ : Option Addr} {ds_Each___init__ : Array (Option Value)} {dc2_Each___init__ : Value} {od_Each_stretch_of an_Each_stretch_of : Option Addr} {sl_Each_stretch_of : Array (Option Value)} {oc_Each_stretch_of kV_Each_stretch_of dc_Each_stretch_of pm_Each_stretch_of cd_Each_stretch_of ct_Each_stretch_of : Value} {od_Each_follow an_Each_follow : Option Addr} {sl_Each_follow : Array (Option Value)} {oc_Each_follow kV_Each_follow dc_Each_follow pm_Each_follow cd_Each_follow ct_Each_follow : Value} {od_Each_let_by an_Each_let_by : Option Addr} {sl_Each_let_by : Array (Option Value)} {oc_Each_let_by kV_Each_let_by dc_Each_let_by pm_Each_let_by cd_Each_let_by ct_Each_let_by : Value} {od_Each_words an_Each_words : Option Addr} {sl_Each_words : Array (Option Value)} {oc_Each_words kV_Each_words dc_Each_words pm_Each_words cd_Each_words ct_Each_words : Value} {od_Behind___init__ an_Behind___init__ : Option Addr} {sl_Behind___init__ : Array (Option Value)} {oc_Behind___init__ kV_Behind___init__ dc_Behind___init__ pm_Behind___init__ cd_Behind___init__ ct_Behind___init__ : Value} {dn_Behind___init__ : Nat} {dd_Behind___init__ : Option Addr} {ds_Behind___init__ : Array (Option Value)} {dc2_Behind___init__ : Value} {od_Behind_gap_ahead an_Behind_gap_ahead : Option Addr} {sl_Behind_gap_ahead : Array (Option Value)} {oc_Behind_gap_ahead kV_Behind_gap_ahead dc_Behind_gap_ahead pm_Behind_gap_ahead cd_Behind_gap_ahead ct_Behind_gap_ahead : Value} {od_Behind_follow an_Behind_follow : Option Addr} {sl_Behind_follow : Array (Option Value)} {oc_Behind_follow kV_Behind_follow dc_Behind_follow pm_Behind_follow cd_Behind_follow ct_Behind_follow : Value} {od_Behind_let_by an_Behind_let_by : Option Addr} {sl_Behind_let_by : Array (Option Value)} {oc_Behind_let_by kV_Behind_let_by dc_Behind_let_by pm_Behind_let_by cd_Behind_let_by ct_Behind_let_by : Value} {od_Behind_leap an_Behind_leap : Option Addr} {sl_Behind_leap : Array (Option Value)} {oc_Behind_leap kV_Behind_leap dc_Behind_leap pm_Behind_leap cd_Behind_leap ct_Behind_leap : Value} {od_Behind_words an_Behind_words : Option Addr} {sl_Behind_words : Array (Option Value)} {oc_Behind_words kV_Behind_words dc_Behind_words pm_Behind_words cd_Behind_words ct_Behind_words : Value} {od_Slowing___init__ an_Slowing___init__ : Option Addr} {sl_Slowing___init__ : Array (Option Value)} {oc_Slowing___init__ kV_Slowing___init__ dc_Slowing___init__ pm_Slowing___init__ cd_Slowing___init__ ct_Slowing___init__ : Value} {dn_Slowing___init__ : Nat} {dd_Slowing___init__ : Option Addr} {ds_Slowing___init__ : Array (Option Value)} {dc2_Slowing___init__ : Value} {od_Slowing_gap_ahead an_Slowing_gap_ahead : Option Addr} {sl_Slowing_gap_ahead : Array (Option Value)} {oc_Slowing_gap_ahead kV_Slowing_gap_ahead dc_Slowing_gap_ahead pm_Slowing_gap_ahead cd_Slowing_gap_ahead ct_Slowing_gap_ahead : Value} {od_Slowing_let_by an_Slowing_let_by : Option Addr} {sl_Slowing_let_by : Array (Option Value)} {oc_Slowing_let_by kV_Slowing_let_by dc_Slowing_let_by pm_Slowing_let_by cd_Slowing_let_by ct_Slowing_let_by : Value} {od_Slowing_words an_Slowing_words : Option Addr} {sl_Slowing_words : Array (Option Value)} {oc_Slowing_words kV_Slowing_words dc_Slowing_words pm_Slowing_words cd_Slowing_words ct_Slowing_words : Value} {od__law_cell_at an__law_cell_at : Option Addr} {sl__law_cell_at : Array (Option Value)} {oc__law_cell_at kV__law_cell_at dc__law_cell_at pm__law_cell_at cd__law_cell_at ct__law_cell_at : Value} {od__law_number an__law_number : Option Addr} {sl__law_number : Array (Option Value)} {oc__law_number kV__law_number dc__law_number pm__law_number cd__law_number ct__law_number : Value} {od__law_numbers an__law_numbers : Option Addr} {sl__law_numbers : Array (Option Value)} {oc__law_numbers kV__law_numbers dc__law_numbers pm__law_numbers cd__law_numbers ct__law_numbers : Value} {od__law_made an__law_made : Option Addr} {sl__law_made : Array (Option Value)} {oc__law_made kV__law_made dc__law_made pm__law_made cd__law_made ct__law_made : Value} {od__law_bare an__law_bare : Option Addr} {sl__law_bare : Array (Option Value)} {oc__law_bare kV__law_bare dc__law_bare pm__law_bare cd__law_bare ct__law_bare : Value} {od__law_due an__law_due : Option Addr} {sl__law_due : Array (Option Value)} {oc__law_due kV__law_due dc__law_due pm__law_due cd__law_due ct__law_due : Value} {od__law_says an__law_says : Option Addr} {sl__law_says : Array (Option Value)} {oc__law_says kV__law_says dc__law_says pm__law_says cd__law_says ct__law_says : Value} {od_law an_law : Option Addr} {sl_law : Array (Option Value)} {oc_law kV_law dc_law pm_law cd_law ct_law : Value} (X : K.In h) (G : h.Ns mainGlobals mg)
    (aC_Rule : PySem.W.nsIn K mainGlobals "Rule" = some (some (.ref C_Rule)))
    (aC_Once : PySem.W.nsIn K mainGlobals "Once" = some (some (.ref C_Once)))
    (aC_Each : PySem.W.nsIn K mainGlobals "Each" = some (some (.ref C_Each)))
    (aC_Behind : PySem.W.nsIn K mainGlobals "Behind" = some (some (.ref C_Behind)))
    (aC_Slowing : PySem.W.nsIn K mainGlobals "Slowing" = some (some (.ref C_Slowing)))
    (hgg : PySem.W.specialIn K (.builtin "object.__class__") "__get__" = some (some (.builtin "getset_descriptor.__get__")))
    (htt : PySem.W.takesIn K (.builtin "object.__class__") = some true)
    (a_is_whole : PySem.W.nsIn K mainGlobals "is_whole" = some (some (.ref f_is_whole)))
    (l_is_whole : K.lookup f_is_whole = some ⟨oc_is_whole, od_is_whole, .func (PySem.W.fnOf "is_whole" "is_whole" (defArgs s_is_whole) (defBody s_is_whole) (defScope s_is_whole) (.none) kV_is_whole dc_is_whole pm_is_whole an_is_whole cd_is_whole ct_is_whole), sl_is_whole⟩)
    (c_is_whole : PySem.W.codeIn K cd_is_whole "is_whole" = true)
    (k_is_whole : PySem.W.keepIn K (.ref f_is_whole) = true)
    (a_figures : PySem.W.nsIn K mainGlobals "figures" = some (some (.ref f_figures)))
    (l_figures : K.lookup f_figures = some ⟨oc_figures, od_figures, .func (PySem.W.fnOf "figures" "figures" (defArgs s_figures) (defBody s_figures) (defScope s_figures) (.none) kV_figures dc_figures pm_figures an_figures cd_figures ct_figures), sl_figures⟩)
    (c_figures : PySem.W.codeIn K cd_figures "figures" = true)
    (k_figures : PySem.W.keepIn K (.ref f_figures) = true)
    (a_check_from : PySem.W.nsIn K mainGlobals "check_from" = some (some (.ref f_check_from)))
    (l_check_from : K.lookup f_check_from = some ⟨oc_check_from, od_check_from, .func (PySem.W.fnOf "check_from" "check_from" (defArgs s_check_from) (defBody s_check_from) (defScope s_check_from) (.none) kV_check_from dc_check_from pm_check_from an_check_from cd_check_from ct_check_from), sl_check_from⟩)
    (c_check_from : PySem.W.codeIn K cd_check_from "check_from" = true)
    (k_check_from : PySem.W.keepIn K (.ref f_check_from) = true)
    (a_spans_over : PySem.W.nsIn K mainGlobals "spans_over" = some (some (.ref f_spans_over)))
    (l_spans_over : K.lookup f_spans_over = some ⟨oc_spans_over, od_spans_over, .func (PySem.W.fnOf "spans_over" "spans_over" (defArgs s_spans_over) (defBody s_spans_over) (defScope s_spans_over) (.none) kV_spans_over dc_spans_over pm_spans_over an_spans_over cd_spans_over ct_spans_over), sl_spans_over⟩)
    (c_spans_over : PySem.W.codeIn K cd_spans_over "spans_over" = true)
    (k_spans_over : PySem.W.keepIn K (.ref f_spans_over) = true)
    (a_word_of : PySem.W.nsIn K mainGlobals "word_of" = some (some (.ref f_word_of)))
    (l_word_of : K.lookup f_word_of = some ⟨oc_word_of, od_word_of, .func (PySem.W.fnOf "word_of" "word_of" (defArgs s_word_of) (defBody s_word_of) (defScope s_word_of) (.none) kV_word_of dc_word_of pm_word_of an_word_of cd_word_of ct_word_of), sl_word_of⟩)
    (c_word_of : PySem.W.codeIn K cd_word_of "word_of" = true)
    (k_word_of : PySem.W.keepIn K (.ref f_word_of) = true)
    (a_row_of : PySem.W.nsIn K mainGlobals "row_of" = some (some (.ref f_row_of)))
    (l_row_of : K.lookup f_row_of = some ⟨oc_row_of, od_row_of, .func (PySem.W.fnOf "row_of" "row_of" (defArgs s_row_of) (defBody s_row_of) (defScope s_row_of) (.none) kV_row_of dc_row_of pm_row_of an_row_of cd_row_of ct_row_of), sl_row_of⟩)
    (c_row_of : PySem.W.codeIn K cd_row_of "row_of" = true)
    (k_row_of : PySem.W.keepIn K (.ref f_row_of) = true)
    (a_Rule___init__ : PySem.W.findIn K (.ref C_Rule) "__init__" = some (some (.ref f_Rule___init__)))
    (l_Rule___init__ : K.lookup f_Rule___init__ = some ⟨oc_Rule___init__, od_Rule___init__, .func (PySem.W.fnOf "__init__" "Rule.__init__" (defArgs s_Rule___init__) (defBody s_Rule___init__) (defScope s_Rule___init__) (.none) kV_Rule___init__ dc_Rule___init__ pm_Rule___init__ an_Rule___init__ cd_Rule___init__ ct_Rule___init__), sl_Rule___init__⟩)
    (c_Rule___init__ : PySem.W.codeIn K cd_Rule___init__ "Rule.__init__" = true)
    (k_Rule___init__ : PySem.W.keepIn K (.ref f_Rule___init__) = true)
    (i_Rule___init__ : PySem.W.isFn K (.ref f_Rule___init__) = true)
    (a_Rule_place_of : PySem.W.findIn K (.ref C_Rule) "place_of" = some (some (.ref f_Rule_place_of)))
    (l_Rule_place_of : K.lookup f_Rule_place_of = some ⟨oc_Rule_place_of, od_Rule_place_of, .func (PySem.W.fnOf "place_of" "Rule.place_of" (defArgs s_Rule_place_of) (defBody s_Rule_place_of) (defScope s_Rule_place_of) (.none) kV_Rule_place_of dc_Rule_place_of pm_Rule_place_of an_Rule_place_of cd_Rule_place_of ct_Rule_place_of), sl_Rule_place_of⟩)
    (c_Rule_place_of : PySem.W.codeIn K cd_Rule_place_of "Rule.place_of" = true)
    (k_Rule_place_of : PySem.W.keepIn K (.ref f_Rule_place_of) = true)
    (i_Rule_place_of : PySem.W.isFn K (.ref f_Rule_place_of) = true)
    (a_Once___init__ : PySem.W.findIn K (.ref C_Once) "__init__" = some (some (.ref f_Once___init__)))
    (l_Once___init__ : K.lookup f_Once___init__ = some ⟨oc_Once___init__, od_Once___init__, .func (PySem.W.fnOf "__init__" "Once.__init__" (defArgs s_Once___init__) (defBody s_Once___init__) (defScope s_Once___init__) (.ref dT_Once___init__) kV_Once___init__ dc_Once___init__ pm_Once___init__ an_Once___init__ cd_Once___init__ ct_Once___init__), sl_Once___init__⟩)
    (c_Once___init__ : PySem.W.codeIn K cd_Once___init__ "Once.__init__" = true)
    (k_Once___init__ : PySem.W.keepIn K (.ref f_Once___init__) = true)
    (i_Once___init__ : PySem.W.isFn K (.ref f_Once___init__) = true)
    (t_Once___init__ : K.lookup dT_Once___init__ = some ⟨dc2_Once___init__, dd_Once___init__, .seq #[.none] dn_Once___init__, ds_Once___init__⟩)
    (a_Once_follow : PySem.W.findIn K (.ref C_Once) "follow" = some (some (.ref f_Once_follow)))
    (l_Once_follow : K.lookup f_Once_follow = some ⟨oc_Once_follow, od_Once_follow, .func (PySem.W.fnOf "follow" "Once.follow" (defArgs s_Once_follow) (defBody s_Once_follow) (defScope s_Once_follow) (.none) kV_Once_follow dc_Once_follow pm_Once_follow an_Once_follow cd_Once_follow ct_Once_follow), sl_Once_follow⟩)
    (c_Once_follow : PySem.W.codeIn K cd_Once_follow "Once.follow" = true)
    (k_Once_follow : PySem.W.keepIn K (.ref f_Once_follow) = true)
    (i_Once_follow : PySem.W.isFn K (.ref f_Once_follow) = true)
    (a_Once_let_by : PySem.W.findIn K (.ref C_Once) "let_by" = some (some (.ref f_Once_let_by)))
    (l_Once_let_by : K.lookup f_Once_let_by = some ⟨oc_Once_let_by, od_Once_let_by, .func (PySem.W.fnOf "let_by" "Once.let_by" (defArgs s_Once_let_by) (defBody s_Once_let_by) (defScope s_Once_let_by) (.none) kV_Once_let_by dc_Once_let_by pm_Once_let_by an_Once_let_by cd_Once_let_by ct_Once_let_by), sl_Once_let_by⟩)
    (c_Once_let_by : PySem.W.codeIn K cd_Once_let_by "Once.let_by" = true)
    (k_Once_let_by : PySem.W.keepIn K (.ref f_Once_let_by) = true)
    (i_Once_let_by : PySem.W.isFn K (.ref f_Once_let_by) = true)
    (a_Once_words : PySem.W.findIn K (.ref C_Once) "words" = some (some (.ref f_Once_words)))
    (l_Once_words : K.lookup f_Once_words = some ⟨oc_Once_words, od_Once_words, .func (PySem.W.fnOf "words" "Once.words" (defArgs s_Once_words) (defBody s_Once_words) (defScope s_Once_words) (.none) kV_Once_words dc_Once_words pm_Once_words an_Once_words cd_Once_words ct_Once_words), sl_Once_words⟩)
    (c_Once_words : PySem.W.codeIn K cd_Once_words "Once.words" = true)
    (k_Once_words : PySem.W.keepIn K (.ref f_Once_words) = true)
    (i_Once_words : PySem.W.isFn K (.ref f_Once_words) = true)
    (a_Each___init__ : PySem.W.findIn K (.ref C_Each) "__init__" = some (some (.ref f_Each___init__)))
    (l_Each___init__ : K.lookup f_Each___init__ = some ⟨oc_Each___init__, od_Each___init__, .func (PySem.W.fnOf "__init__" "Each.__init__" (defArgs s_Each___init__) (defBody s_Each___init__) (defScope s_Each___init__) (.ref dT_Each___init__) kV_Each___init__ dc_Each___init__ pm_Each___init__ an_Each___init__ cd_Each___init__ ct_Each___init__), sl_Each___init__⟩)
    (c_Each___init__ : PySem.W.codeIn K cd_Each___init__ "Each.__init__" = true)
    (k_Each___init__ : PySem.W.keepIn K (.ref f_Each___init__) = true)
    (i_Each___init__ : PySem.W.isFn K (.ref f_Each___init__) = true)
    (t_Each___init__ : K.lookup dT_Each___init__ = some ⟨dc2_Each___init__, dd_Each___init__, .seq #[(.int 0 tk_Each___init___0), .none] dn_Each___init__, ds_Each___init__⟩)
    (a_Each_stretch_of : PySem.W.findIn K (.ref C_Each) "stretch_of" = some (some (.ref f_Each_stretch_of)))
    (l_Each_stretch_of : K.lookup f_Each_stretch_of = some ⟨oc_Each_stretch_of, od_Each_stretch_of, .func (PySem.W.fnOf "stretch_of" "Each.stretch_of" (defArgs s_Each_stretch_of) (defBody s_Each_stretch_of) (defScope s_Each_stretch_of) (.none) kV_Each_stretch_of dc_Each_stretch_of pm_Each_stretch_of an_Each_stretch_of cd_Each_stretch_of ct_Each_stretch_of), sl_Each_stretch_of⟩)
    (c_Each_stretch_of : PySem.W.codeIn K cd_Each_stretch_of "Each.stretch_of" = true)
    (k_Each_stretch_of : PySem.W.keepIn K (.ref f_Each_stretch_of) = true)
    (i_Each_stretch_of : PySem.W.isFn K (.ref f_Each_stretch_of) = true)
    (a_Each_follow : PySem.W.findIn K (.ref C_Each) "follow" = some (some (.ref f_Each_follow)))
    (l_Each_follow : K.lookup f_Each_follow = some ⟨oc_Each_follow, od_Each_follow, .func (PySem.W.fnOf "follow" "Each.follow" (defArgs s_Each_follow) (defBody s_Each_follow) (defScope s_Each_follow) (.none) kV_Each_follow dc_Each_follow pm_Each_follow an_Each_follow cd_Each_follow ct_Each_follow), sl_Each_follow⟩)
    (c_Each_follow : PySem.W.codeIn K cd_Each_follow "Each.follow" = true)
    (k_Each_follow : PySem.W.keepIn K (.ref f_Each_follow) = true)
    (i_Each_follow : PySem.W.isFn K (.ref f_Each_follow) = true)
    (a_Each_let_by : PySem.W.findIn K (.ref C_Each) "let_by" = some (some (.ref f_Each_let_by)))
    (l_Each_let_by : K.lookup f_Each_let_by = some ⟨oc_Each_let_by, od_Each_let_by, .func (PySem.W.fnOf "let_by" "Each.let_by" (defArgs s_Each_let_by) (defBody s_Each_let_by) (defScope s_Each_let_by) (.none) kV_Each_let_by dc_Each_let_by pm_Each_let_by an_Each_let_by cd_Each_let_by ct_Each_let_by), sl_Each_let_by⟩)
    (c_Each_let_by : PySem.W.codeIn K cd_Each_let_by "Each.let_by" = true)
    (k_Each_let_by : PySem.W.keepIn K (.ref f_Each_let_by) = true)
    (i_Each_let_by : PySem.W.isFn K (.ref f_Each_let_by) = true)
    (a_Each_words : PySem.W.findIn K (.ref C_Each) "words" = some (some (.ref f_Each_words)))
    (l_Each_words : K.lookup f_Each_words = some ⟨oc_Each_words, od_Each_words, .func (PySem.W.fnOf "words" "Each.words" (defArgs s_Each_words) (defBody s_Each_words) (defScope s_Each_words) (.none) kV_Each_words dc_Each_words pm_Each_words an_Each_words cd_Each_words ct_Each_words), sl_Each_words⟩)
    (c_Each_words : PySem.W.codeIn K cd_Each_words "Each.words" = true)
    (k_Each_words : PySem.W.keepIn K (.ref f_Each_words) = true)
    (i_Each_words : PySem.W.isFn K (.ref f_Each_words) = true)
    (a_Behind___init__ : PySem.W.findIn K (.ref C_Behind) "__init__" = some (some (.ref f_Behind___init__)))
    (l_Behind___init__ : K.lookup f_Behind___init__ = some ⟨oc_Behind___init__, od_Behind___init__, .func (PySem.W.fnOf "__init__" "Behind.__init__" (defArgs s_Behind___init__) (defBody s_Behind___init__) (defScope s_Behind___init__) (.ref dT_Behind___init__) kV_Behind___init__ dc_Behind___init__ pm_Behind___init__ an_Behind___init__ cd_Behind___init__ ct_Behind___init__), sl_Behind___init__⟩)
    (c_Behind___init__ : PySem.W.codeIn K cd_Behind___init__ "Behind.__init__" = true)
    (k_Behind___init__ : PySem.W.keepIn K (.ref f_Behind___init__) = true)
    (i_Behind___init__ : PySem.W.isFn K (.ref f_Behind___init__) = true)
    (t_Behind___init__ : K.lookup dT_Behind___init__ = some ⟨dc2_Behind___init__, dd_Behind___init__, .seq #[(.int 0 tk_Behind___init___0), .none] dn_Behind___init__, ds_Behind___init__⟩)
    (a_Behind_gap_ahead : PySem.W.findIn K (.ref C_Behind) "gap_ahead" = some (some (.ref f_Behind_gap_ahead)))
    (l_Behind_gap_ahead : K.lookup f_Behind_gap_ahead = some ⟨oc_Behind_gap_ahead, od_Behind_gap_ahead, .func (PySem.W.fnOf "gap_ahead" "Behind.gap_ahead" (defArgs s_Behind_gap_ahead) (defBody s_Behind_gap_ahead) (defScope s_Behind_gap_ahead) (.none) kV_Behind_gap_ahead dc_Behind_gap_ahead pm_Behind_gap_ahead an_Behind_gap_ahead cd_Behind_gap_ahead ct_Behind_gap_ahead), sl_Behind_gap_ahead⟩)
    (c_Behind_gap_ahead : PySem.W.codeIn K cd_Behind_gap_ahead "Behind.gap_ahead" = true)
    (k_Behind_gap_ahead : PySem.W.keepIn K (.ref f_Behind_gap_ahead) = true)
    (i_Behind_gap_ahead : PySem.W.isFn K (.ref f_Behind_gap_ahead) = true)
    (a_Behind_follow : PySem.W.findIn K (.ref C_Behind) "follow" = some (some (.ref f_Behind_follow)))
    (l_Behind_follow : K.lookup f_Behind_follow = some ⟨oc_Behind_follow, od_Behind_follow, .func (PySem.W.fnOf "follow" "Behind.follow" (defArgs s_Behind_follow) (defBody s_Behind_follow) (defScope s_Behind_follow) (.none) kV_Behind_follow dc_Behind_follow pm_Behind_follow an_Behind_follow cd_Behind_follow ct_Behind_follow), sl_Behind_follow⟩)
    (c_Behind_follow : PySem.W.codeIn K cd_Behind_follow "Behind.follow" = true)
    (k_Behind_follow : PySem.W.keepIn K (.ref f_Behind_follow) = true)
    (i_Behind_follow : PySem.W.isFn K (.ref f_Behind_follow) = true)
    (a_Behind_let_by : PySem.W.findIn K (.ref C_Behind) "let_by" = some (some (.ref f_Behind_let_by)))
    (l_Behind_let_by : K.lookup f_Behind_let_by = some ⟨oc_Behind_let_by, od_Behind_let_by, .func (PySem.W.fnOf "let_by" "Behind.let_by" (defArgs s_Behind_let_by) (defBody s_Behind_let_by) (defScope s_Behind_let_by) (.none) kV_Behind_let_by dc_Behind_let_by pm_Behind_let_by an_Behind_let_by cd_Behind_let_by ct_Behind_let_by), sl_Behind_let_by⟩)
    (c_Behind_let_by : PySem.W.codeIn K cd_Behind_let_by "Behind.let_by" = true)
    (k_Behind_let_by : PySem.W.keepIn K (.ref f_Behind_let_by) = true)
    (i_Behind_let_by : PySem.W.isFn K (.ref f_Behind_let_by) = true)
    (a_Behind_leap : PySem.W.findIn K (.ref C_Behind) "leap" = some (some (.ref f_Behind_leap)))
    (l_Behind_leap : K.lookup f_Behind_leap = some ⟨oc_Behind_leap, od_Behind_leap, .func (PySem.W.fnOf "leap" "Behind.leap" (defArgs s_Behind_leap) (defBody s_Behind_leap) (defScope s_Behind_leap) (.none) kV_Behind_leap dc_Behind_leap pm_Behind_leap an_Behind_leap cd_Behind_leap ct_Behind_leap), sl_Behind_leap⟩)
    (c_Behind_leap : PySem.W.codeIn K cd_Behind_leap "Behind.leap" = true)
    (k_Behind_leap : PySem.W.keepIn K (.ref f_Behind_leap) = true)
    (i_Behind_leap : PySem.W.isFn K (.ref f_Behind_leap) = true)
    (a_Behind_words : PySem.W.findIn K (.ref C_Behind) "words" = some (some (.ref f_Behind_words)))
    (l_Behind_words : K.lookup f_Behind_words = some ⟨oc_Behind_words, od_Behind_words, .func (PySem.W.fnOf "words" "Behind.words" (defArgs s_Behind_words) (defBody s_Behind_words) (defScope s_Behind_words) (.none) kV_Behind_words dc_Behind_words pm_Behind_words an_Behind_words cd_Behind_words ct_Behind_words), sl_Behind_words⟩)
    (c_Behind_words : PySem.W.codeIn K cd_Behind_words "Behind.words" = true)
    (k_Behind_words : PySem.W.keepIn K (.ref f_Behind_words) = true)
    (i_Behind_words : PySem.W.isFn K (.ref f_Behind_words) = true)
    (a_Slowing___init__ : PySem.W.findIn K (.ref C_Slowing) "__init__" = some (some (.ref f_Slowing___init__)))
    (l_Slowing___init__ : K.lookup f_Slowing___init__ = some ⟨oc_Slowing___init__, od_Slowing___init__, .func (PySem.W.fnOf "__init__" "Slowing.__init__" (defArgs s_Slowing___init__) (defBody s_Slowing___init__) (defScope s_Slowing___init__) (.ref dT_Slowing___init__) kV_Slowing___init__ dc_Slowing___init__ pm_Slowing___init__ an_Slowing___init__ cd_Slowing___init__ ct_Slowing___init__), sl_Slowing___init__⟩)
    (c_Slowing___init__ : PySem.W.codeIn K cd_Slowing___init__ "Slowing.__init__" = true)
    (k_Slowing___init__ : PySem.W.keepIn K (.ref f_Slowing___init__) = true)
    (i_Slowing___init__ : PySem.W.isFn K (.ref f_Slowing___init__) = true)
    (t_Slowing___init__ : K.lookup dT_Slowing___init__ = some ⟨dc2_Slowing___init__, dd_Slowing___init__, .seq #[(.int 0 tk_Slowing___init___0), .none] dn_Slowing___init__, ds_Slowing___init__⟩)
    (a_Slowing_gap_ahead : PySem.W.findIn K (.ref C_Slowing) "gap_ahead" = some (some (.ref f_Slowing_gap_ahead)))
    (l_Slowing_gap_ahead : K.lookup f_Slowing_gap_ahead = some ⟨oc_Slowing_gap_ahead, od_Slowing_gap_ahead, .func (PySem.W.fnOf "gap_ahead" "Slowing.gap_ahead" (defArgs s_Slowing_gap_ahead) (defBody s_Slowing_gap_ahead) (defScope s_Slowing_gap_ahead) (.none) kV_Slowing_gap_ahead dc_Slowing_gap_ahead pm_Slowing_gap_ahead an_Slowing_gap_ahead cd_Slowing_gap_ahead ct_Slowing_gap_ahead), sl_Slowing_gap_ahead⟩)
    (c_Slowing_gap_ahead : PySem.W.codeIn K cd_Slowing_gap_ahead "Slowing.gap_ahead" = true)
    (k_Slowing_gap_ahead : PySem.W.keepIn K (.ref f_Slowing_gap_ahead) = true)
    (i_Slowing_gap_ahead : PySem.W.isFn K (.ref f_Slowing_gap_ahead) = true)
    (a_Slowing_let_by : PySem.W.findIn K (.ref C_Slowing) "let_by" = some (some (.ref f_Slowing_let_by)))
    (l_Slowing_let_by : K.lookup f_Slowing_let_by = some ⟨oc_Slowing_let_by, od_Slowing_let_by, .func (PySem.W.fnOf "let_by" "Slowing.let_by" (defArgs s_Slowing_let_by) (defBody s_Slowing_let_by) (defScope s_Slowing_let_by) (.none) kV_Slowing_let_by dc_Slowing_let_by pm_Slowing_let_by an_Slowing_let_by cd_Slowing_let_by ct_Slowing_let_by), sl_Slowing_let_by⟩)
    (c_Slowing_let_by : PySem.W.codeIn K cd_Slowing_let_by "Slowing.let_by" = true)
    (k_Slowing_let_by : PySem.W.keepIn K (.ref f_Slowing_let_by) = true)
    (i_Slowing_let_by : PySem.W.isFn K (.ref f_Slowing_let_by) = true)
    (a_Slowing_words : PySem.W.findIn K (.ref C_Slowing) "words" = some (some (.ref f_Slowing_words)))
    (l_Slowing_words : K.lookup f_Slowing_words = some ⟨oc_Slowing_words, od_Slowing_words, .func (PySem.W.fnOf "words" "Slowing.words" (defArgs s_Slowing_words) (defBody s_Slowing_words) (defScope s_Slowing_words) (.none) kV_Slowing_words dc_Slowing_words pm_Slowing_words an_Slowing_words cd_Slowing_words ct_Slowing_words), sl_Slowing_words⟩)
    (c_Slowing_words : PySem.W.codeIn K cd_Slowing_words "Slowing.words" = true)
    (k_Slowing_words : PySem.W.keepIn K (.ref f_Slowing_words) = true)
    (i_Slowing_words : PySem.W.isFn K (.ref f_Slowing_words) = true)
    (a__law_cell_at : PySem.W.nsIn K mainGlobals "_law_cell_at" = some (some (.ref f__law_cell_at)))
    (l__law_cell_at : K.lookup f__law_cell_at = some ⟨oc__law_cell_at, od__law_cell_at, .func (PySem.W.fnOf "_law_cell_at" "_law_cell_at" (defArgs s__law_cell_at) (defBody s__law_cell_at) (defScope s__law_cell_at) (.none) kV__law_cell_at dc__law_cell_at pm__law_cell_at an__law_cell_at cd__law_cell_at ct__law_cell_at), sl__law_cell_at⟩)
    (c__law_cell_at : PySem.W.codeIn K cd__law_cell_at "_law_cell_at" = true)
    (k__law_cell_at : PySem.W.keepIn K (.ref f__law_cell_at) = true)
    (a__law_number : PySem.W.nsIn K mainGlobals "_law_number" = some (some (.ref f__law_number)))
    (l__law_number : K.lookup f__law_number = some ⟨oc__law_number, od__law_number, .func (PySem.W.fnOf "_law_number" "_law_number" (defArgs s__law_number) (defBody s__law_number) (defScope s__law_number) (.none) kV__law_number dc__law_number pm__law_number an__law_number cd__law_number ct__law_number), sl__law_number⟩)
    (c__law_number : PySem.W.codeIn K cd__law_number "_law_number" = true)
    (k__law_number : PySem.W.keepIn K (.ref f__law_number) = true)
    (a__law_numbers : PySem.W.nsIn K mainGlobals "_law_numbers" = some (some (.ref f__law_numbers)))
    (l__law_numbers : K.lookup f__law_numbers = some ⟨oc__law_numbers, od__law_numbers, .func (PySem.W.fnOf "_law_numbers" "_law_numbers" (defArgs s__law_numbers) (defBody s__law_numbers) (defScope s__law_numbers) (.none) kV__law_numbers dc__law_numbers pm__law_numbers an__law_numbers cd__law_numbers ct__law_numbers), sl__law_numbers⟩)
    (c__law_numbers : PySem.W.codeIn K cd__law_numbers "_law_numbers" = true)
    (k__law_numbers : PySem.W.keepIn K (.ref f__law_numbers) = true)
    (a__law_made : PySem.W.nsIn K mainGlobals "_law_made" = some (some (.ref f__law_made)))
    (l__law_made : K.lookup f__law_made = some ⟨oc__law_made, od__law_made, .func (PySem.W.fnOf "_law_made" "_law_made" (defArgs s__law_made) (defBody s__law_made) (defScope s__law_made) (.none) kV__law_made dc__law_made pm__law_made an__law_made cd__law_made ct__law_made), sl__law_made⟩)
    (c__law_made : PySem.W.codeIn K cd__law_made "_law_made" = true)
    (k__law_made : PySem.W.keepIn K (.ref f__law_made) = true)
    (a__law_bare : PySem.W.nsIn K mainGlobals "_law_bare" = some (some (.ref f__law_bare)))
    (l__law_bare : K.lookup f__law_bare = some ⟨oc__law_bare, od__law_bare, .func (PySem.W.fnOf "_law_bare" "_law_bare" (defArgs s__law_bare) (defBody s__law_bare) (defScope s__law_bare) (.none) kV__law_bare dc__law_bare pm__law_bare an__law_bare cd__law_bare ct__law_bare), sl__law_bare⟩)
    (c__law_bare : PySem.W.codeIn K cd__law_bare "_law_bare" = true)
    (k__law_bare : PySem.W.keepIn K (.ref f__law_bare) = true)
    (a__law_due : PySem.W.nsIn K mainGlobals "_law_due" = some (some (.ref f__law_due)))
    (l__law_due : K.lookup f__law_due = some ⟨oc__law_due, od__law_due, .func (PySem.W.fnOf "_law_due" "_law_due" (defArgs s__law_due) (defBody s__law_due) (defScope s__law_due) (.none) kV__law_due dc__law_due pm__law_due an__law_due cd__law_due ct__law_due), sl__law_due⟩)
    (c__law_due : PySem.W.codeIn K cd__law_due "_law_due" = true)
    (k__law_due : PySem.W.keepIn K (.ref f__law_due) = true)
    (a__law_says : PySem.W.nsIn K mainGlobals "_law_says" = some (some (.ref f__law_says)))
    (l__law_says : K.lookup f__law_says = some ⟨oc__law_says, od__law_says, .func (PySem.W.fnOf "_law_says" "_law_says" (defArgs s__law_says) (defBody s__law_says) (defScope s__law_says) (.none) kV__law_says dc__law_says pm__law_says an__law_says cd__law_says ct__law_says), sl__law_says⟩)
    (c__law_says : PySem.W.codeIn K cd__law_says "_law_says" = true)
    (k__law_says : PySem.W.keepIn K (.ref f__law_says) = true)
    (a_law : PySem.W.nsIn K mainGlobals "law" = some (some (.ref f_law)))
    (l_law : K.lookup f_law = some ⟨oc_law, od_law, .func (PySem.W.fnOf "law" "law" (defArgs s_law) (defBody s_law) (defScope s_law) (.none) kV_law dc_law pm_law an_law cd_law ct_law), sl_law⟩)
    (c_law : PySem.W.codeIn K cd_law "law" = true)
    (k_law : PySem.W.keepIn K (.ref f_law) = true)
    (pg_Rule : PySem.W.plainGet K C_Rule Str.empty = true)
    (hd_Rule : PySem.W.hasDictIn K C_Rule = true)
    (po_Rule : PySem.W.plainOver K C_Rule = true)
    (sa_Rule : PySem.W.findIn K (.ref C_Rule) "__setattr__" = some (some (.builtin "object.__setattr__")))
    (mk_Rule : PySem.W.makesIn K C_Rule = true)
    (kc_Rule : PySem.W.keepIn K (.ref C_Rule) = true)
    (t1_Rule : PySem.W.findIn K (.ref C_Rule) "__class__" = some (some (.builtin "object.__class__")))
    (t2_Rule : PySem.W.mroIn K C_Rule (.type "object") = some true)
    (t3_Rule : PySem.W.typeIn K (.ref C_Rule) = some (.type "type"))
    (pg_Once : PySem.W.plainGet K C_Once Str.empty = true)
    (hd_Once : PySem.W.hasDictIn K C_Once = true)
    (po_Once : PySem.W.plainOver K C_Once = true)
    (sa_Once : PySem.W.findIn K (.ref C_Once) "__setattr__" = some (some (.builtin "object.__setattr__")))
    (na_Once_many : PySem.W.findIn K (.ref C_Once) "many" = some none)
    (na_Once_first : PySem.W.findIn K (.ref C_Once) "first" = some none)
    (na_Once_last : PySem.W.findIn K (.ref C_Once) "last" = some none)
    (mk_Once : PySem.W.makesIn K C_Once = true)
    (kc_Once : PySem.W.keepIn K (.ref C_Once) = true)
    (im_Once_place_of : PySem.W.findIn K (.ref C_Once) "place_of" = some (some (.ref f_Rule_place_of)))
    (t1_Once : PySem.W.findIn K (.ref C_Once) "__class__" = some (some (.builtin "object.__class__")))
    (t2_Once : PySem.W.mroIn K C_Once (.type "object") = some true)
    (t3_Once : PySem.W.typeIn K (.ref C_Once) = some (.type "type"))
    (pg_Each : PySem.W.plainGet K C_Each Str.empty = true)
    (hd_Each : PySem.W.hasDictIn K C_Each = true)
    (po_Each : PySem.W.plainOver K C_Each = true)
    (sa_Each : PySem.W.findIn K (.ref C_Each) "__setattr__" = some (some (.builtin "object.__setattr__")))
    (na_Each_many : PySem.W.findIn K (.ref C_Each) "many" = some none)
    (na_Each_start : PySem.W.findIn K (.ref C_Each) "start" = some none)
    (na_Each_step : PySem.W.findIn K (.ref C_Each) "step" = some none)
    (na_Each_wide : PySem.W.findIn K (.ref C_Each) "wide" = some none)
    (mk_Each : PySem.W.makesIn K C_Each = true)
    (kc_Each : PySem.W.keepIn K (.ref C_Each) = true)
    (im_Each_place_of : PySem.W.findIn K (.ref C_Each) "place_of" = some (some (.ref f_Rule_place_of)))
    (t1_Each : PySem.W.findIn K (.ref C_Each) "__class__" = some (some (.builtin "object.__class__")))
    (t2_Each : PySem.W.mroIn K C_Each (.type "object") = some true)
    (t3_Each : PySem.W.typeIn K (.ref C_Each) = some (.type "type"))
    (pg_Behind : PySem.W.plainGet K C_Behind Str.empty = true)
    (hd_Behind : PySem.W.hasDictIn K C_Behind = true)
    (po_Behind : PySem.W.plainOver K C_Behind = true)
    (sa_Behind : PySem.W.findIn K (.ref C_Behind) "__setattr__" = some (some (.builtin "object.__setattr__")))
    (na_Behind_many : PySem.W.findIn K (.ref C_Behind) "many" = some none)
    (na_Behind_start : PySem.W.findIn K (.ref C_Behind) "start" = some none)
    (na_Behind_gap : PySem.W.findIn K (.ref C_Behind) "gap" = some none)
    (na_Behind_wide : PySem.W.findIn K (.ref C_Behind) "wide" = some none)
    (mk_Behind : PySem.W.makesIn K C_Behind = true)
    (kc_Behind : PySem.W.keepIn K (.ref C_Behind) = true)
    (im_Behind_place_of : PySem.W.findIn K (.ref C_Behind) "place_of" = some (some (.ref f_Rule_place_of)))
    (t1_Behind : PySem.W.findIn K (.ref C_Behind) "__class__" = some (some (.builtin "object.__class__")))
    (t2_Behind : PySem.W.mroIn K C_Behind (.type "object") = some true)
    (t3_Behind : PySem.W.typeIn K (.ref C_Behind) = some (.type "type"))
    (pg_Slowing : PySem.W.plainGet K C_Slowing Str.empty = true)
    (hd_Slowing : PySem.W.hasDictIn K C_Slowing = true)
    (po_Slowing : PySem.W.plainOver K C_Slowing = true)
    (sa_Slowing : PySem.W.findIn K (.ref C_Slowing) "__setattr__" = some (some (.builtin "object.__setattr__")))
    (na_Slowing_many : PySem.W.findIn K (.ref C_Slowing) "many" = some none)
    (na_Slowing_start : PySem.W.findIn K (.ref C_Slowing) "start" = some none)
    (na_Slowing_gap : PySem.W.findIn K (.ref C_Slowing) "gap" = some none)
    (na_Slowing_wide : PySem.W.findIn K (.ref C_Slowing) "wide" = some none)
    (na_Slowing_most : PySem.W.findIn K (.ref C_Slowing) "most" = some none)
    (mk_Slowing : PySem.W.makesIn K C_Slowing = true)
    (kc_Slowing : PySem.W.keepIn K (.ref C_Slowing) = true)
    (im_Slowing_follow : PySem.W.findIn K (.ref C_Slowing) "follow" = some (some (.ref f_Behind_follow)))
    (im_Slowing_leap : PySem.W.findIn K (.ref C_Slowing) "leap" = some (some (.ref f_Behind_leap)))
    (im_Slowing_place_of : PySem.W.findIn K (.ref C_Slowing) "place_of" = some (some (.ref f_Rule_place_of)))
    (t1_Slowing : PySem.W.findIn K (.ref C_Slowing) "__class__" = some (some (.builtin "object.__class__")))
    (t2_Slowing : PySem.W.mroIn K C_Slowing (.type "object") = some true)
    (t3_Slowing : PySem.W.typeIn K (.ref C_Slowing) = some (.type "type"))
    (b1_Behind___init__ : PySem.W.specialIn K (.ref C_Behind) "__getattribute__" = some (some (.builtin "type.__getattribute__")))
    (b2_Behind___init__ : PySem.W.readsIn K C_Behind (.type "type") = true)
    (b3_Behind___init__ : PySem.W.findCls K (.ref C_Behind) (.type "type") "__init__" = some (.val (.ref f_Behind___init__)))
    (b1_Rule___init__ : PySem.W.specialIn K (.ref C_Rule) "__getattribute__" = some (some (.builtin "type.__getattribute__")))
    (b2_Rule___init__ : PySem.W.readsIn K C_Rule (.type "type") = true)
    (b3_Rule___init__ : PySem.W.findCls K (.ref C_Rule) (.type "type") "__init__" = some (.val (.ref f_Rule___init__)))
    (no_bool : PySem.W.nsIn K mainGlobals "bool" = some none)
    (no_int : PySem.W.nsIn K mainGlobals "int" = some none)
    (no_isinstance : PySem.W.nsIn K mainGlobals "isinstance" = some none)
    (no_len : PySem.W.nsIn K mainGlobals "len" = some none)
    (no_max : PySem.W.nsIn K mainGlobals "max" = some none)
    (no_min : PySem.W.nsIn K mainGlobals "min" = some none)
    (no_range : PySem.W.nsIn K mainGlobals "range" = some none)
    (no_str : PySem.W.nsIn K mainGlobals "str" = some none)
    : ∃ a : Ad, a.f_law = a.f_law ∧ Txt K mg a :=
  ⟨⟨f_is_whole, _, f_figures, _, f_check_from, _, f_spans_over, _, f_word_of, _, f_row_of, _, f_Rule___init__, _, f_Rule_place_of, _, f_Once___init__, _, dT_Once___init__, f_Once_follow, _, f_Once_let_by, _, f_Once_words, _, f_Each___init__, _, dT_Each___init__, tk_Each___init___0, f_Each_stretch_of, _, f_Each_follow, _, f_Each_let_by, _, f_Each_words, _, f_Behind___init__, _, dT_Behind___init__, tk_Behind___init___0, f_Behind_gap_ahead, _, f_Behind_follow, _, f_Behind_let_by, _, f_Behind_leap, _, f_Behind_words, _, f_Slowing___init__, _, dT_Slowing___init__, tk_Slowing___init___0, f_Slowing_gap_ahead, _, f_Slowing_let_by, _, f_Slowing_words, _, f__law_cell_at, _, f__law_number, _, f__law_numbers, _, f__law_made, _, f__law_bare, _, f__law_due, _, f__law_says, _, f_law, _, C_Rule, C_Once, C_Each, C_Behind, C_Slowing⟩, rfl, {
    F_is_whole := funD_mk l_is_whole c_is_whole,
    kp_is_whole := k_is_whole,
    mg_is_whole := PySem.W.mg_of X G a_is_whole,
    F_figures := funD_mk l_figures c_figures,
    kp_figures := k_figures,
    mg_figures := PySem.W.mg_of X G a_figures,
    F_check_from := funD_mk l_check_from c_check_from,
    kp_check_from := k_check_from,
    mg_check_from := PySem.W.mg_of X G a_check_from,
    F_spans_over := funD_mk l_spans_over c_spans_over,
    kp_spans_over := k_spans_over,
    mg_spans_over := PySem.W.mg_of X G a_spans_over,
    F_word_of := funD_mk l_word_of c_word_of,
    kp_word_of := k_word_of,
    mg_word_of := PySem.W.mg_of X G a_word_of,
    F_row_of := funD_mk l_row_of c_row_of,
    kp_row_of := k_row_of,
    mg_row_of := PySem.W.mg_of X G a_row_of,
    F_Rule___init__ := funD_mk l_Rule___init__ c_Rule___init__,
    kp_Rule___init__ := k_Rule___init__,
    F_Rule_place_of := funD_mk l_Rule_place_of c_Rule_place_of,
    kp_Rule_place_of := k_Rule_place_of,
    F_Once___init__ := funD_mk l_Once___init__ c_Once___init__,
    kp_Once___init__ := k_Once___init__,
    D_Once___init__ := ⟨⟨_, _, t_Once___init__, rfl⟩⟩,
    F_Once_follow := funD_mk l_Once_follow c_Once_follow,
    kp_Once_follow := k_Once_follow,
    F_Once_let_by := funD_mk l_Once_let_by c_Once_let_by,
    kp_Once_let_by := k_Once_let_by,
    F_Once_words := funD_mk l_Once_words c_Once_words,
    kp_Once_words := k_Once_words,
    F_Each___init__ := funD_mk l_Each___init__ c_Each___init__,
    kp_Each___init__ := k_Each___init__,
    D_Each___init__ := ⟨⟨_, _, t_Each___init__, rfl⟩⟩,
    F_Each_stretch_of := funD_mk l_Each_stretch_of c_Each_stretch_of,
    kp_Each_stretch_of := k_Each_stretch_of,
    F_Each_follow := funD_mk l_Each_follow c_Each_follow,
    kp_Each_follow := k_Each_follow,
    F_Each_let_by := funD_mk l_Each_let_by c_Each_let_by,
    kp_Each_let_by := k_Each_let_by,
    F_Each_words := funD_mk l_Each_words c_Each_words,
    kp_Each_words := k_Each_words,
    F_Behind___init__ := funD_mk l_Behind___init__ c_Behind___init__,
    kp_Behind___init__ := k_Behind___init__,
    D_Behind___init__ := ⟨⟨_, _, t_Behind___init__, rfl⟩⟩,
    F_Behind_gap_ahead := funD_mk l_Behind_gap_ahead c_Behind_gap_ahead,
    kp_Behind_gap_ahead := k_Behind_gap_ahead,
    F_Behind_follow := funD_mk l_Behind_follow c_Behind_follow,
    kp_Behind_follow := k_Behind_follow,
    F_Behind_let_by := funD_mk l_Behind_let_by c_Behind_let_by,
    kp_Behind_let_by := k_Behind_let_by,
    F_Behind_leap := funD_mk l_Behind_leap c_Behind_leap,
    kp_Behind_leap := k_Behind_leap,
    F_Behind_words := funD_mk l_Behind_words c_Behind_words,
    kp_Behind_words := k_Behind_words,
    F_Slowing___init__ := funD_mk l_Slowing___init__ c_Slowing___init__,
    kp_Slowing___init__ := k_Slowing___init__,
    D_Slowing___init__ := ⟨⟨_, _, t_Slowing___init__, rfl⟩⟩,
    F_Slowing_gap_ahead := funD_mk l_Slowing_gap_ahead c_Slowing_gap_ahead,
    kp_Slowing_gap_ahead := k_Slowing_gap_ahead,
    F_Slowing_let_by := funD_mk l_Slowing_let_by c_Slowing_let_by,
    kp_Slowing_let_by := k_Slowing_let_by,
    F_Slowing_words := funD_mk l_Slowing_words c_Slowing_words,
    kp_Slowing_words := k_Slowing_words,
    F__law_cell_at := funD_mk l__law_cell_at c__law_cell_at,
    kp__law_cell_at := k__law_cell_at,
    mg__law_cell_at := PySem.W.mg_of X G a__law_cell_at,
    F__law_number := funD_mk l__law_number c__law_number,
    kp__law_number := k__law_number,
    mg__law_number := PySem.W.mg_of X G a__law_number,
    F__law_numbers := funD_mk l__law_numbers c__law_numbers,
    kp__law_numbers := k__law_numbers,
    mg__law_numbers := PySem.W.mg_of X G a__law_numbers,
    F__law_made := funD_mk l__law_made c__law_made,
    kp__law_made := k__law_made,
    mg__law_made := PySem.W.mg_of X G a__law_made,
    F__law_bare := funD_mk l__law_bare c__law_bare,
    kp__law_bare := k__law_bare,
    mg__law_bare := PySem.W.mg_of X G a__law_bare,
    F__law_due := funD_mk l__law_due c__law_due,
    kp__law_due := k__law_due,
    mg__law_due := PySem.W.mg_of X G a__law_due,
    F__law_says := funD_mk l__law_says c__law_says,
    kp__law_says := k__law_says,
    mg__law_says := PySem.W.mg_of X G a__law_says,
    F_law := funD_mk l_law c_law,
    kp_law := k_law,
    mg_law := PySem.W.mg_of X G a_law,
    mg_Rule := PySem.W.mg_of X G aC_Rule,
    cl_Rule := ⟨pg_Rule, hd_Rule, po_Rule, sa_Rule⟩,
    M_Rule := ⟨mk_Rule, a_Rule___init__, i_Rule___init__, kc_Rule⟩,
    m_Rule_place_of := ⟨a_Rule_place_of, i_Rule_place_of, k_Rule_place_of⟩,
    ty_Rule := ⟨t1_Rule, hgg, htt, t2_Rule⟩,
    mg_Once := PySem.W.mg_of X G aC_Once,
    cl_Once := ⟨pg_Once, hd_Once, po_Once, sa_Once⟩,
    na_Once_many := na_Once_many,
    na_Once_first := na_Once_first,
    na_Once_last := na_Once_last,
    M_Once := ⟨mk_Once, a_Once___init__, i_Once___init__, kc_Once⟩,
    m_Once_follow := ⟨a_Once_follow, i_Once_follow, k_Once_follow⟩,
    m_Once_let_by := ⟨a_Once_let_by, i_Once_let_by, k_Once_let_by⟩,
    m_Once_words := ⟨a_Once_words, i_Once_words, k_Once_words⟩,
    m_Once_place_of := ⟨im_Once_place_of, i_Rule_place_of, k_Rule_place_of⟩,
    ty_Once := ⟨t1_Once, hgg, htt, t2_Once⟩,
    mg_Each := PySem.W.mg_of X G aC_Each,
    cl_Each := ⟨pg_Each, hd_Each, po_Each, sa_Each⟩,
    na_Each_many := na_Each_many,
    na_Each_start := na_Each_start,
    na_Each_step := na_Each_step,
    na_Each_wide := na_Each_wide,
    M_Each := ⟨mk_Each, a_Each___init__, i_Each___init__, kc_Each⟩,
    m_Each_stretch_of := ⟨a_Each_stretch_of, i_Each_stretch_of, k_Each_stretch_of⟩,
    m_Each_follow := ⟨a_Each_follow, i_Each_follow, k_Each_follow⟩,
    m_Each_let_by := ⟨a_Each_let_by, i_Each_let_by, k_Each_let_by⟩,
    m_Each_words := ⟨a_Each_words, i_Each_words, k_Each_words⟩,
    m_Each_place_of := ⟨im_Each_place_of, i_Rule_place_of, k_Rule_place_of⟩,
    ty_Each := ⟨t1_Each, hgg, htt, t2_Each⟩,
    mg_Behind := PySem.W.mg_of X G aC_Behind,
    cl_Behind := ⟨pg_Behind, hd_Behind, po_Behind, sa_Behind⟩,
    na_Behind_many := na_Behind_many,
    na_Behind_start := na_Behind_start,
    na_Behind_gap := na_Behind_gap,
    na_Behind_wide := na_Behind_wide,
    M_Behind := ⟨mk_Behind, a_Behind___init__, i_Behind___init__, kc_Behind⟩,
    m_Behind_gap_ahead := ⟨a_Behind_gap_ahead, i_Behind_gap_ahead, k_Behind_gap_ahead⟩,
    m_Behind_follow := ⟨a_Behind_follow, i_Behind_follow, k_Behind_follow⟩,
    m_Behind_let_by := ⟨a_Behind_let_by, i_Behind_let_by, k_Behind_let_by⟩,
    m_Behind_leap := ⟨a_Behind_leap, i_Behind_leap, k_Behind_leap⟩,
    m_Behind_words := ⟨a_Behind_words, i_Behind_words, k_Behind_words⟩,
    m_Behind_place_of := ⟨im_Behind_place_of, i_Rule_place_of, k_Rule_place_of⟩,
    ty_Behind := ⟨t1_Behind, hgg, htt, t2_Behind⟩,
    mg_Slowing := PySem.W.mg_of X G aC_Slowing,
    cl_Slowing := ⟨pg_Slowing, hd_Slowing, po_Slowing, sa_Slowing⟩,
    na_Slowing_many := na_Slowing_many,
    na_Slowing_start := na_Slowing_start,
    na_Slowing_gap := na_Slowing_gap,
    na_Slowing_wide := na_Slowing_wide,
    na_Slowing_most := na_Slowing_most,
    M_Slowing := ⟨mk_Slowing, a_Slowing___init__, i_Slowing___init__, kc_Slowing⟩,
    m_Slowing_gap_ahead := ⟨a_Slowing_gap_ahead, i_Slowing_gap_ahead, k_Slowing_gap_ahead⟩,
    m_Slowing_let_by := ⟨a_Slowing_let_by, i_Slowing_let_by, k_Slowing_let_by⟩,
    m_Slowing_words := ⟨a_Slowing_words, i_Slowing_words, k_Slowing_words⟩,
    m_Slowing_follow := ⟨im_Slowing_follow, i_Behind_follow, k_Behind_follow⟩,
    m_Slowing_leap := ⟨im_Slowing_leap, i_Behind_leap, k_Behind_leap⟩,
    m_Slowing_place_of := ⟨im_Slowing_place_of, i_Rule_place_of, k_Rule_place_of⟩,
    ty_Slowing := ⟨t1_Slowing, hgg, htt, t2_Slowing⟩,
    B_Behind___init__ := ⟨b1_Behind___init__, b2_Behind___init__, b3_Behind___init__, k_Behind___init__⟩,
    B_Rule___init__ := ⟨b1_Rule___init__, b2_Rule___init__, b3_Rule___init__, k_Rule___init__⟩,
    no_bool := PySem.W.mg_none_of X G no_bool,
    no_int := PySem.W.mg_none_of X G no_int,
    no_isinstance := PySem.W.mg_none_of X G no_isinstance,
    no_len := PySem.W.mg_none_of X G no_len,
    no_max := PySem.W.mg_none_of X G no_max,
    no_min := PySem.W.mg_none_of X G no_min,
    no_range := PySem.W.mg_none_of X G no_range,
    no_str := PySem.W.mg_none_of X G no_str
  }⟩
def sp_whole : Sp := fun vs H Q _ => ∃ v d, vs = [v] ∧ Dv H v d ∧ Q (.bl (isInt d && !isBool d)) H
theorem u_whole {H : Hp} {Q : VK} {E : XK} {v : V} {d : PyData} (h : Dv H v d) (q : Q (.bl (isInt d && !isBool d)) H) : sp_whole [v] H Q E := ⟨v, d, rfl, h, q⟩
def sp_check : Sp := fun vs H Q _ => ∃ n l x, vs = [.int n, .int l, .str x] ∧ l ≤ n ∧ Q .non H
theorem u_check {H : Hp} {Q : VK} {E : XK} {n l : Int} {x : Str} (h : l ≤ n) (q : Q .non H) : sp_check [.int n, .int l, .str x] H Q E := ⟨n, l, x, rfl, h, q⟩
def sp_Rule_init (C : Addr) : Sp := fun vs H Q _ => ∃ p dx m, vs = [.ref p, m] ∧ MOk m ∧ H p = some (.ins C dx []) ∧ Q .non (upd H p (.ins C dx [("many", m)]))
theorem u_Rule_init {C p dx : Addr} {H : Hp} {Q : VK} {E : XK} {m : V} (hm : MOk m) (hp : H p = some (.ins C dx [])) (q : Q .non (upd H p (.ins C dx [("many", m)]))) : sp_Rule_init C [.ref p, m] H Q E := ⟨p, dx, m, rfl, hm, hp, q⟩
def sp_num : Sp := fun vs H Q _ => ∃ i, vs = [.int i] ∧ ∀ n, n = num i → 0 ≤ n → n < 10 ^ 39 → Q (.int n) H
theorem u_num {H : Hp} {Q : VK} {E : XK} {i : Int} (q : ∀ n, n = num i → 0 ≤ n → n < 10 ^ 39 → Q (.int n) H) : sp_num [.int i] H Q E := ⟨i, rfl, q⟩
def sp_place_of (C : Addr) : Sp := fun vs H Q _ => ∃ v fs m n x d, vs = [v, .int n, x] ∧ MOk m ∧ Ins H v C fs ∧ fs.lookup ("many" : Str) = some m ∧ Dv H x d ∧ ∀ v' H', Same H H' → Dv H' v' (.tuple [.int (capN m n), capD m n d]) → Q v' H'
theorem u_place_of {C : Addr} {H : Hp} {Q : VK} {E : XK} {v x : V} {fs : List (Str × V)} {d : PyData} {m : V} {n : Int} (ho : MOk m) (hp : Ins H v C fs) (hm : fs.lookup ("many" : Str) = some m) (hd : Dv H x d) (q : ∀ v' H', Same H H' → Dv H' v' (.tuple [.int (capN m n), capD m n d]) → Q v' H') : sp_place_of C [v, .int n, x] H Q E := ⟨v, fs, m, n, x, d, rfl, ho, hp, hm, hd, q⟩
def sp_is_stretch : Sp := fun vs H Q _ => ∃ v w x y z u, vs = [v, w] ∧ Dv H v (.tuple [.int x, .int y]) ∧ Dv H w (.tuple [.int z, .int u]) ∧ Q (.bl (decide (x = z) && decide (y = u))) H
theorem u_is_stretch {H : Hp} {Q : VK} {E : XK} {v w : V} {x y z u : Int} (h1 : Dv H v (.tuple [.int x, .int y])) (h2 : Dv H w (.tuple [.int z, .int u])) (q : Q (.bl (decide (x = z) && decide (y = u))) H) : sp_is_stretch [v, w] H Q E := ⟨v, w, x, y, z, u, rfl, h1, h2, q⟩
def sp_law (K : PySem.W.Frag) : Sp := fun vs H Q _ => ∃ (l : Addr) (ns : List Int), vs = [.ref l] ∧ SqL K H l (ns.map V.int) ∧ ns.length ≤ 63 ∧ ∀ H', Q (.bl true) H'
local macro_rules | `(tactic| walk_at "bd") => `(tactic| first
  | assumption
  | exact ⟨by omega, by omega⟩)
local macro_rules | `(tactic| walk_at "mok") => `(tactic| first
  | assumption
  | exact Or.inl rfl
  | exact Or.inr ⟨_, rfl, by omega⟩)
local macro_rules | `(tactic| walk_at "use") => `(tactic| first
  | ((with_reducible refine' u_whole ?e ?_); case e => walk_at "dat")
  | ((with_reducible refine' u_check ?e ?_); case e => walk_at "side")
  | ((with_reducible refine' u_Rule_init ?e1 ?e2 ?_); (case e1 => walk_at "mok"); (case e2 => walk_at "at"))
  | ((with_reducible refine' u_cell ?e1 ?e2 ?_); (case e1 => walk_at "sql"); (case e2 => omega))
  | with_reducible refine u_num (fun _ _ _ _ => ?_)
  | ((with_reducible refine' u_place_of ?e0 ?e1 ?e2 ?e3 (fun _ _ _ _ => ?_)); (case e1 => walk_at "ins"); (case e2 => walk_at "lk"); (case e0 => walk_at "mok"); (case e3 => walk_at "dat")))
section
variable {P : Program} {w : World} {K : PySem.W.Frag} {mg : Str → Option Value} {base : Heap} {a : Ad}
theorem ok_is_whole (T : Txt K mg a) : FnOk P w K mg base CX0 1 a.f_is_whole a.fd_is_whole ["thing"] sp_whole := by
  refine T.F_is_whole.ok sc_is_whole (fun vs H Q E h => ?_) (fun cdv A outer s H vs Q E hr h => ?_)
  · obtain ⟨_, _, rfl, _⟩ := h; rfl
  · obtain ⟨v, d, rfl, hd, k⟩ := h
    refine ⟨_, (pss_one (ps_ret (pe_and (pe_callB call_isi rfl T.no_isinstance PyProof.Rows.boot_isinstance (pa_cons (pv 0) (pa_cons (pe_bltn (v := .ty "int") rfl T.no_int PyProof.Rows.boot_int rfl) pa_nil))) (pe_one (pe_not (pe_callB call_isi rfl T.no_isinstance PyProof.Rows.boot_isinstance (pa_cons (pv 0) (pa_cons (pe_bltn (v := .ty "bool") rfl T.no_bool PyProof.Rows.boot_bool rfl) pa_nil)))))))), ?_⟩
    repeat' (walk_at "rd1")
    · refine r_rt ?_; cases d <;> simp_all [isInt, isBool]
    · refine r_rt ?_; cases d <;> simp_all [isInt, isBool]
theorem cal_is_whole (T : Txt K mg a) : Cal P w K mg base 1 a.f_is_whole ["thing"] [] sp_whole :=
  ⟨⟨_, _, ok_is_whole T, T.F_is_whole.binds fun _ _ _ _ _ _ => .all fun us hl => match us, hl with | [_], _ => rfl, .nil⟩⟩
theorem ok_check_from (T : Txt K mg a) : FnOk P w K mg base CX0 2 a.f_check_from a.fd_check_from ["number", "least", "what"] sp_check := by
  have c_is_whole : Cal P w K mg base 1 a.f_is_whole ["thing"] [] sp_whole := cal_is_whole T
  refine T.F_check_from.ok sc_check_from (fun vs H Q E h => ?_) (fun cdv A outer s H vs Q E hr h => ?_)
  · obtain ⟨_, _, _, rfl, _⟩ := h; rfl
  · obtain ⟨n, l, x, rfl, hl, k⟩ := h
    refine ⟨_, (pss_one (ps_if (PW.pt (pw_or (pt_not (pt_truth (pn_call c_is_whole (hr.mono (by decide)) rfl T.mg_is_whole T.kp_is_whole (pa_cons (pv 0) pa_nil)) (fun _ => rfl))) (pw_or1 (pt_cmpR op_lt (pv 0) (pv 1) (nomark _)))))
        (pss_one ps_never)
        pss_nil)), ?_⟩
    repeat' (walk_at "rd1")
    exact k
theorem cal_check_from (T : Txt K mg a) : Cal P w K mg base 2 a.f_check_from ["number", "least", "what"] [] sp_check :=
  ⟨⟨_, _, ok_check_from T, T.F_check_from.binds fun _ _ _ _ _ _ => .all fun us hl => match us, hl with | [_, _, _], _ => rfl, .nil⟩⟩
theorem ok_Rule_init {C : Addr} (T : Txt K mg a) (cl : Cls K C) (na : NoAttr K C "many") : FnOk P w K mg base CX0 3 a.f_Rule___init__ a.fd_Rule___init__ ["self", "many"] (sp_Rule_init C) := by
  have c_check_from : Cal P w K mg base 2 a.f_check_from ["number", "least", "what"] [] sp_check := cal_check_from T
  refine T.F_Rule___init__.ok sc_Rule___init__ (fun vs H Q E h => ?_) (fun cdv A outer s H vs Q E hr h => ?_)
  · obtain ⟨_, _, _, rfl, _⟩ := h; rfl
  · obtain ⟨p, dx, m, rfl, hm, hp, k⟩ := h
    refine ⟨_, (pss_cut (ps_if (pt_cmpR op_notN (pv 1) pe_non (nomark _))
        (pss_one (ps_expr (pn_call c_check_from (hr.mono (by decide)) rfl T.mg_check_from T.kp_check_from (pa_cons (pv 1) (pa_cons pe_int (pa_cons pe_str pa_nil))))))
        pss_nil)
      (pss_one (ps_fld (pv 0) (pv 1) rfl))), ?_⟩
    rcases hm with rfl | ⟨i, rfl, hi⟩
    · repeat' (walk_at "rd1")
      exact k
    · repeat' (walk_at "rd1")
      exact k
theorem cal_Rule_init {C : Addr} (T : Txt K mg a) (cl : Cls K C) (na : NoAttr K C "many") : Cal P w K mg base 3 a.f_Rule___init__ ["self", "many"] [] (sp_Rule_init C) :=
  ⟨⟨_, _, ok_Rule_init T cl na, T.F_Rule___init__.binds fun _ _ _ _ _ _ => .all fun us hl => match us, hl with | [_, _], _ => rfl, .nil⟩⟩
theorem ok_law_cell_at (T : Txt K mg a) : FnOk P w K mg base CX0 1 a.f__law_cell_at a.fd__law_cell_at ["_law_script", "_law_k"] (spCell K) := by
  refine T.F__law_cell_at.ok sc__law_cell_at (fun vs H Q E h => ?_) (fun cdv A outer s H vs Q E hr h => ?_)
  · obtain ⟨_, _, _, rfl, _⟩ := h; rfl
  · obtain ⟨l, ns, i, rfl, hl, h0, k⟩ := h
    refine ⟨_, (pss_cut (ps_if (pt_cmpR op_lt (pv 1) (pe_callB call_lenK rfl T.no_len PySem.boot_len (pa_cons (pv 0) pa_nil)) (nomark _))
        (pss_one (ps_ret (pe_ix ix_K (pv 0) (pv 1) (fun _ _ => rfl))))
        pss_nil)
      (pss_one (ps_ret pe_int))), ?_⟩
    repeat' (walk_at "rd1")
    · exact r_ixL hl (cell_at h0 (by assumption)) k
    · rw [cell_no h0 (by assumption)] at k; exact k
theorem cal_law_cell_at (T : Txt K mg a) : Cal P w K mg base 1 a.f__law_cell_at ["_law_script", "_law_k"] [] (spCell K) :=
  ⟨⟨_, _, ok_law_cell_at T, T.F__law_cell_at.binds fun _ _ _ _ _ _ => .all fun us hl => match us, hl with | [_, _], _ => rfl, .nil⟩⟩
theorem ok_law_number (T : Txt K mg a) : FnOk P w K mg base CX0 1 a.f__law_number a.fd__law_number ["_law_cell"] sp_num := by
  refine T.F__law_number.ok sc__law_number (fun vs H Q E h => ?_) (fun cdv A outer s H vs Q E hr h => ?_)
  · obtain ⟨i, rfl, _⟩ := h; rfl
  · obtain ⟨i, rfl, k⟩ := h
    refine ⟨_, (pss_cut (ps_if (pt_cmpR (op_eqA hr.hu8) (pe_op op_modP (pv 0) pe_int) pe_int (nomark _))
        (pss_one (ps_ret (pe_op op_modP (pe_op op_fdivB (pv 0) pe_int) pe_int)))
        pss_nil)
      (pss_cut (ps_if (pt_cmpR (op_eqA hr.hu8) (pe_op op_modP (pv 0) pe_int) pe_int (nomark _))
        (pss_one (ps_ret (pe_op op_modP (pe_op op_fdivB (pv 0) pe_int) pe_int)))
        pss_nil)
      (pss_one (ps_ret (pe_op op_modP (pe_op op_fdivB (pv 0) pe_int) (pe_op op_pow pe_int pe_int)))))), ?_⟩
    repeat' (walk_at "rd1")
    all_goals (refine k _ ?_ ?_ ?_)
    all_goals (first | omega | (simp only [num]; split <;> first | rfl | omega) | exact Int.emod_nonneg _ (by decide) | exact Int.emod_lt_of_pos _ (by decide) | (simp only [num]; split; omega; split; omega; rfl))
theorem cal_law_number (T : Txt K mg a) : Cal P w K mg base 1 a.f__law_number ["_law_cell"] [] sp_num :=
  ⟨⟨_, _, ok_law_number T, T.F__law_number.binds fun _ _ _ _ _ _ => .all fun us hl => match us, hl with | [_], _ => rfl, .nil⟩⟩
theorem law_binds (T : Txt K mg a) (s : Shared) (u : Value) : BindsTo s a.fd_law ⟨[u], []⟩ [("_law_script", u)] := by
  obtain ⟨oc, od, kV, doc, pm, an, cdv, ct, osl, e, lk, hcd⟩ := T.F_law.ex
  rw [e]
  exact .of_eq rfl
theorem ok_place_of {C : Addr} (T : Txt K mg a) (cl : Cls K C) (na : NoAttr K C "many") : FnOk P w K mg base CX0 1 a.f_Rule_place_of a.fd_Rule_place_of ["self", "number", "stretch"] (sp_place_of C) := by
  refine T.F_Rule_place_of.ok sc_Rule_place_of (fun vs H Q E h => ?_) (fun cdv A outer s H vs Q E hr h => ?_)
  · obtain ⟨_, _, _, _, _, _, rfl, _⟩ := h; rfl
  · obtain ⟨v, fs, m, n, x, d, rfl, ho, hp, hm, hd, k⟩ := h
    refine ⟨_, (pss_cut (ps_if (PW.pt (pw_and (pt_cmpR op_notN (pe_fld (pv 0) rfl) pe_non (nomark _)) (pw_and1 (pt_cmpR op_ge (pv 1) (pe_fld (pv 0) rfl) (nomark _)))))
        (pss_one (ps_ret (pe_tupD (pa_cons (pe_fld (pv 0) rfl) (pa_cons pe_non pa_nil)))))
        pss_nil)
      (pss_one (ps_ret (pe_tupD (pa_cons (pv 1) (pa_cons (pv 2) pa_nil)))))), ?_⟩
    rcases ho with rfl | ⟨i, rfl, hi⟩
    · repeat' (walk_at "rd1")
      (refine k _ _ ?_ ?_; walk_at "same"; walk_at "dat")
    · repeat' (walk_at "rd1")
      · rename_i hb _ _ _ _
        rw [capN_le hb, capD_le hb] at k
        (refine k _ _ ?_ ?_; walk_at "same"; walk_at "dat")
      · rename_i hb _ _ _ _
        rw [capN_gt hb, capD_gt hb] at k
        (refine k _ _ ?_ ?_; walk_at "same"; walk_at "dat")
theorem cal_place_of {C : Addr} (T : Txt K mg a) (cl : Cls K C) (na : NoAttr K C "many") : Cal P w K mg base 1 a.f_Rule_place_of ["self", "number", "stretch"] [] (sp_place_of C) :=
  ⟨⟨_, _, ok_place_of T cl na, T.F_Rule_place_of.binds fun _ _ _ _ _ _ => .all fun us hl => match us, hl with | [_, _, _], _ => rfl, .nil⟩⟩
def figS (n : Int) : Str := (toString n : String)
theorem figS_len {n : Int} (h0 : 0 ≤ n) (h : n < 10 ^ 64) : (figS n).length ≤ 65 := by
  have e : (toString n).length ≤ 64 + 1 := PySem.int_text_length_le10 (by decide) (by omega)
  have : (figS n).length = (toString n).length := PySem.ofString_length _
  omega
def sp_fig : Sp := fun vs H Q _ => ∃ n, vs = [.int n] ∧ 0 ≤ n ∧ n < 10 ^ 64 ∧ ∀ H', Same H H' → Q (.str (figS n)) H'
theorem u_fig {H : Hp} {Q : VK} {E : XK} {n : Int} (h0 : 0 ≤ n) (h1 : n < 10 ^ 64) (q : ∀ H', Same H H' → Q (.str (figS n)) H') : sp_fig [.int n] H Q E := ⟨n, rfl, h0, h1, q⟩
theorem ok_figures (T : Txt K mg a) : FnOk P w K mg base CX0 1 a.f_figures a.fd_figures ["number"] sp_fig := by
  refine T.F_figures.ok sc_figures (fun vs H Q E h => ?_) (fun cdv A outer s H vs Q E hr h => ?_)
  · obtain ⟨_, rfl, _⟩ := h; rfl
  · obtain ⟨n, rfl, h0, h1, q⟩ := h
    have hln := figS_len h0 h1
    refine ⟨_, (pss_cut (ps_if (pt_cmpR op_lt (pv 0) pe_int (nomark _))
        (pss_one ps_never)
        pss_nil)
      (pss_cut (ps_set (i := 1) sc_figures.nd rfl (Or.inl rfl) (pe_op op_pow pe_int pe_int))
      (pss_cut (ps_set (i := 2) sc_figures.nd rfl (Or.inl rfl) (pe_lstD pa_nil))
      (pss_cut (ps_while PassesOwn.never (pt_cmpR op_ge (pv 0) (pv 1) (nomark _))
        (pss_cut ps_never
        (pss_one (ps_set (i := 0) sc_figures.nd rfl (Or.inl rfl) (pe_op op_fdivB (pv 0) (pv 1))))))
      (pss_cut (ps_expr (pe_bm PySem.F.plainAttrs_list PySem.F.slot_list_append PySem.F.type_list_append mt_append (pv 2) (pa_cons (pe_callTy call_strI rfl T.no_str PyProof.Rows.boot_str (pa_cons (pv 0) pa_nil)) pa_nil)))
      (pss_cut (ps_expr (pe_bm0 PySem.F.plainAttrs_list PySem.F.slot_list_reverse PySem.F.type_list_reverse mt_reverse (pv 2)))
      (pss_one (ps_ret (pe_bm PySem.F.plainAttrs_str PySem.F.slot_str_join PySem.F.type_str_join mt_join pe_str (pa_cons (pv 2) pa_nil)))))))))), ?_⟩
    repeat' (walk_at "rd1")
    rename_i p H1 sm1 hn1 hp1
    refine r_while (fun m σ' H' => σ' = [some (.int n), some (.int (10 ^ 64)), some (.ref p)] ∧ H' = H1) ⟨0, rfl, rfl⟩ ?_
    rintro m σ' H' ⟨rfl, rfl⟩
    repeat' (walk_at "rd1")
    rename_i H4 m4 l4 H5 m5 l5
    refine r_join (ss := [figS n]) (LAt.dv l5) ?_ ?_
    · have e0 : (Str.ofString "").length = 0 := by decide
      simp only [List.map_cons, List.map_nil, List.sum_cons, List.sum_nil, List.length_cons, List.length_nil, e0]
      omega
    · have e : Txt.join (Str.ofString "") [figS n] = figS n := rfl
      rw [e]
      exact q _ (by walk_at "same")
theorem cal_figures (T : Txt K mg a) : Cal P w K mg base 1 a.f_figures ["number"] [] sp_fig :=
  ⟨⟨_, _, ok_figures T, T.F_figures.binds fun _ _ _ _ _ _ => .all fun us hl => match us, hl with | [_], _ => rfl, .nil⟩⟩
def wordS : PyData → Str
  | .int n => figS n
  | _ => "ever"
def NumOk (d : PyData) : Prop := d = .none ∨ ∃ n, d = .int n ∧ 0 ≤ n ∧ n < 10 ^ 64
def sp_word : Sp := fun vs H Q _ => ∃ v d, vs = [v] ∧ Dv H v d ∧ NumOk d ∧ ∀ H', Same H H' → Q (.str (wordS d)) H'
theorem u_word {H : Hp} {Q : VK} {E : XK} {v : V} {d : PyData} (h : Dv H v d) (hn : NumOk d) (q : ∀ H', Same H H' → Q (.str (wordS d)) H') : sp_word [v] H Q E := ⟨v, d, rfl, h, hn, q⟩
local macro_rules | `(tactic| walk_at "use") => `(tactic| first
  | ((with_reducible refine' u_fig ?e1 ?e2 (fun _ _ => ?_)); (case e1 => omega); (case e2 => omega))
  | ((with_reducible refine' u_word ?e1 ?e2 (fun _ _ => ?_)); (case e1 => walk_at "dat"); (case e2 => assumption))
  | fail)
theorem ok_word_of (T : Txt K mg a) : FnOk P w K mg base CX0 2 a.f_word_of a.fd_word_of ["number"] sp_word := by
  have c_figures := cal_figures (P := P) (w := w) (base := base) T
  refine T.F_word_of.ok sc_word_of (fun vs H Q E h => ?_) (fun cdv A outer s H vs Q E hr h => ?_)
  · obtain ⟨_, _, rfl, _⟩ := h; rfl
  · obtain ⟨v, d, rfl, hd, hn, q⟩ := h
    refine ⟨_, (pss_one (ps_ret (pe_ifExp (pt_cmpR op_isN (pv 0) pe_non (nomark _)) pe_str (pn_call c_figures (hr.mono (by decide)) rfl T.mg_figures T.kp_figures (pa_cons (pv 0) pa_nil))))), ?_⟩
    rcases hn with rfl | ⟨n, rfl, h0, h1⟩
    · cases hd
      repeat' (walk_at "rd1")
      exact q _ (by walk_at "same")
    · cases hd
      repeat' (walk_at "rd1")
      exact q _ (by walk_at "same")
theorem cal_word_of (T : Txt K mg a) : Cal P w K mg base 2 a.f_word_of ["number"] [] sp_word :=
  ⟨⟨_, _, ok_word_of T, T.F_word_of.binds fun _ _ _ _ _ _ => .all fun us hl => match us, hl with | [_], _ => rfl, .nil⟩⟩
theorem wordS_len {d : PyData} (h : NumOk d) : (wordS d).length ≤ 65 := by
  rcases h with rfl | ⟨n, rfl, h0, h1⟩
  · show (Str.ofString "ever").length ≤ 65
    decide
  · exact figS_len h0 h1
theorem words_sum : ∀ {ds : List PyData}, (∀ d ∈ ds, NumOk d) → ((ds.map wordS).map (·.length)).sum ≤ 65 * ds.length
  | [], _ => Nat.zero_le _
  | d :: ds, h => by
    have h1 := wordS_len (h d List.mem_cons_self)
    have h2 := words_sum fun x hx => h x (List.mem_cons_of_mem _ hx)
    simp only [List.map_cons, List.sum_cons, List.length_cons]
    omega
def rowS (kd : Str) (ds : List PyData) : Str := Txt.join (Str.ofString " ") (kd :: ds.map wordS)
def sp_row : Sp := fun vs H Q _ => ∃ kd v ds, vs = [.str kd, v] ∧ Dv H v (.list ds) ∧ ds.length ≤ 10 ∧ kd.length ≤ 20 ∧ (∀ d ∈ ds, NumOk d) ∧ ∀ H', Same H H' → Q (.str (rowS kd ds)) H'
theorem u_row {H : Hp} {Q : VK} {E : XK} {kd : Str} {v : V} {ds : List PyData} (h : Dv H v (.list ds)) (h1 : ds.length ≤ 10) (h2 : kd.length ≤ 20) (h3 : ∀ d ∈ ds, NumOk d) (q : ∀ H', Same H H' → Q (.str (rowS kd ds)) H') : sp_row [.str kd, v] H Q E := ⟨kd, v, ds, rfl, h, h1, h2, h3, q⟩
theorem ok_row_of (T : Txt K mg a) : FnOk P w K mg base CX0 3 a.f_row_of a.fd_row_of ["kind", "numbers"] sp_row := by
  have c_word_of := cal_word_of (P := P) (w := w) (base := base) T
  refine T.F_row_of.ok sc_row_of (fun vs H Q E h => ?_) (fun cdv A outer s H vs Q E hr h => ?_)
  · obtain ⟨_, _, _, rfl, _⟩ := h; rfl
  · obtain ⟨kd, v, ds, rfl, hd, hl, hk, hall, q⟩ := h
    refine ⟨_, (pss_one (ps_ret (pe_bm PySem.F.plainAttrs_str PySem.F.slot_str_join PySem.F.type_str_join mt_join pe_str (pa_cons (pe_op op_cat (pe_lstD (pa_cons (pv 0) pa_nil)) (pe_lc (T := ["number"]) (M := ["kind", "numbers"]) (lcn (defScope s_row_of) ["kind", "numbers"] rfl rfl (by decide +kernel)) rfl (pi_list (pv 1)) (fun _ _ _ _ _ => (pg_name (i := 0) (show List.Nodup (["number", "kind", "numbers"] : List Str) by decide +kernel) rfl (Or.inl rfl))) (gown_name (by decide)) (fun _ _ _ _ _ => pif_nil) (fun _ _ _ _ _ => (pn_call c_word_of (hr.mono (by decide)) rfl T.mg_word_of T.kp_word_of (pa_cons (pv 0) pa_nil))))) pa_nil)))), ?_⟩
    repeat' (walk_at "rd1")
    rename_i p1 H1 sm1 hn1 hp1
    refine r_lc (cs := ds) (gd := fun d => d) (fun _ => true) (fun d => .str (wordS d)) (by rw [List.map_id']; walk_at "dat") (by omega) (fun _ => rfl) (fun x c H' N hc sm' hd' yes no => ?_) (fun pq H5 sm5 hn5 hap => ?_)
    · have hnc := hall c hc
      repeat' (walk_at "rd1")
      show LCT _ N _ true _
      refine r_lct (fun _ => ?_) (fun hb => by cases hb)
      repeat' (walk_at "rd1")
      exact yes rfl _ _ (by walk_at "same") (by walk_at "dat")
    · have e : ds.filter (fun _ => true) = ds := List.filter_eq_self.mpr (by simp)
      rw [e] at hap
      repeat' (walk_at "rd1")
      rename_i p6 H6 sm6 hn6 hp6
      have hdv : Dv H6 (.ref p6) (.list ((kd :: ds.map wordS).map PyData.str)) := by
        have z := LAt.dv hp6
        rw [List.map_cons, List.map_map]
        exact z
      refine r_join hdv ?_ ?_
      · have hs := words_sum hall
        have e1 : (Str.ofString " ").length = 1 := by decide
        rw [e1]
        simp only [List.map_cons, List.sum_cons, List.length_cons, List.length_map]
        omega
      · exact q _ (by walk_at "same")
theorem cal_row_of (T : Txt K mg a) : Cal P w K mg base 3 a.f_row_of ["kind", "numbers"] [] sp_row :=
  ⟨⟨_, _, ok_row_of T, T.F_row_of.binds fun _ _ _ _ _ _ => .all fun us hl => match us, hl with | [_, _], _ => rfl, .nil⟩⟩
theorem NumOk.int {n : Int} (h0 : 0 ≤ n) (h1 : n < 10 ^ 64) : NumOk (.int n) := .inr ⟨n, rfl, h0, h1⟩
def sp_words (C : Addr) (kd : Str) (fs : List (Str × V)) (ds : List PyData) : Sp := fun vs H Q _ => ∃ v, vs = [v] ∧ Ins H v C fs ∧ ∀ H', Same H H' → Q (.str (rowS kd ds)) H'
theorem u_words {C : Addr} {kd : Str} {fs : List (Str × V)} {ds : List PyData} {H : Hp} {Q : VK} {E : XK} {v : V} (hp : Ins H v C fs) (q : ∀ H', Same H H' → Q (.str (rowS kd ds)) H') : sp_words C kd fs ds [v] H Q E := ⟨v, rfl, hp, q⟩
local macro_rules | `(tactic| walk_at "use") => `(tactic| first
  | ((with_reducible refine' u_row ?e1 ?e2 ?e3 ?e4 (fun _ _ => ?_)); (case e1 => walk_at "dat"); (case e2 => exact Nat.le_of_ble_eq_true rfl); (case e3 => exact Nat.le_of_ble_eq_true rfl); (case e4 => assumption))
  | fail)
theorem ok_words_O {f l : Int} (T : Txt K mg a) (h1 : 0 ≤ f) (h2 : f < 10 ^ 64) (h3 : 0 ≤ l) (h4 : l < 10 ^ 64) : FnOk P w K mg base CX0 4 a.f_Once_words a.fd_Once_words ["self"] (sp_words a.C_Once "once" [("many", .int 1), ("first", .int f), ("last", .int l)] [.int f, .int l]) := by
  have c_row_of := cal_row_of (P := P) (w := w) (base := base) T
  have n1 := T.na_Once_first; have n2 := T.na_Once_last; have cl := T.cl_Once
  refine T.F_Once_words.ok sc_Once_words (fun vs H Q E h => ?_) (fun cdv A outer s H vs Q E hr h => ?_)
  · obtain ⟨_, rfl, _⟩ := h; rfl
  · obtain ⟨v, rfl, hp, q⟩ := h
    have hn : ∀ d ∈ [PyData.int f, .int l], NumOk d := by
      intro d hd
      simp only [List.mem_cons, List.not_mem_nil, or_false] at hd
      rcases hd with rfl | rfl
      · exact .int h1 h2
      · exact .int h3 h4
    refine ⟨_, (pss_one (ps_ret (pn_call c_row_of (hr.mono (by decide)) rfl T.mg_row_of T.kp_row_of (pa_cons pe_str (pa_cons (pe_lstD (pa_cons (pe_fld (pv 0) rfl) (pa_cons (pe_fld (pv 0) rfl) pa_nil))) pa_nil))))), ?_⟩
    repeat' (walk_at "rd1")
    exact q _ (by walk_at "same")
theorem cal_words_O {f l : Int} (T : Txt K mg a) (h1 : 0 ≤ f) (h2 : f < 10 ^ 64) (h3 : 0 ≤ l) (h4 : l < 10 ^ 64) : Cal P w K mg base 4 a.f_Once_words ["self"] [] (sp_words a.C_Once "once" [("many", .int 1), ("first", .int f), ("last", .int l)] [.int f, .int l]) :=
  ⟨⟨_, _, ok_words_O T h1 h2 h3 h4, T.F_Once_words.binds fun _ _ _ _ _ _ => .all fun us hl => match us, hl with | [_], _ => rfl, .nil⟩⟩
def MDat (m : V) (d : PyData) : Prop := (m = .non ∧ d = .none) ∨ ∃ i, m = .int i ∧ d = .int i ∧ 0 ≤ i ∧ i < 10 ^ 64
theorem MDat.ok {m : V} {d : PyData} (h : MDat m d) : NumOk d := by
  rcases h with ⟨_, e⟩ | ⟨i, _, e, h0, h1⟩
  · exact .inl e
  · exact .inr ⟨i, e, h0, h1⟩
theorem MDat.dv {m : V} {d : PyData} {H : Hp} (h : MDat m d) : Dv H m d := by
  rcases h with ⟨rfl, rfl⟩ | ⟨i, rfl, rfl, _⟩
  · exact .non
  · exact .int i
local macro_rules | `(tactic| walk_at "dat") => `(tactic| first
  | ((refine' MDat.dv ?m); (case m => assumption))
  | fail)
theorem ok_words_E {st sp wd : Int} {m : V} {d : PyData} (T : Txt K mg a) (a0 : 0 ≤ st) (b0 : st < 10 ^ 64) (a1 : 0 ≤ sp) (b1 : sp < 10 ^ 64) (a2 : 0 ≤ wd) (b2 : wd < 10 ^ 64) (hm : MDat m d) : FnOk P w K mg base CX0 4 a.f_Each_words a.fd_Each_words ["self"] (sp_words a.C_Each "each" [("many", m), ("start", .int st), ("step", .int sp), ("wide", .int wd)] [.int st, .int sp, .int wd, d]) := by
  have c_row_of := cal_row_of (P := P) (w := w) (base := base) T
  have n0 := T.na_Each_many; have n1 := T.na_Each_start; have n2 := T.na_Each_step; have n3 := T.na_Each_wide; have cl := T.cl_Each
  refine T.F_Each_words.ok sc_Each_words (fun vs H Q E h => ?_) (fun cdv A outer s H vs Q E hr h => ?_)
  · obtain ⟨_, rfl, _⟩ := h; rfl
  · obtain ⟨v, rfl, hp, q⟩ := h
    have hn : ∀ x ∈ ([.int st, .int sp, .int wd, d] : List PyData), NumOk x := by
      intro x hx
      simp only [List.mem_cons, List.not_mem_nil, or_false] at hx
      rcases hx with rfl | rfl | rfl | rfl
      · exact .int a0 b0
      · exact .int a1 b1
      · exact .int a2 b2
      · exact hm.ok
    refine ⟨_, (pss_one (ps_ret (pn_call c_row_of (hr.mono (by decide)) rfl T.mg_row_of T.kp_row_of (pa_cons pe_str (pa_cons (pe_lstD (pa_cons (pe_fld (pv 0) rfl) (pa_cons (pe_fld (pv 0) rfl) (pa_cons (pe_fld (pv 0) rfl) (pa_cons (pe_fld (pv 0) rfl) pa_nil))))) pa_nil))))), ?_⟩
    repeat' (walk_at "rd1")
    exact q _ (by walk_at "same")
theorem cal_words_E {st sp wd : Int} {m : V} {d : PyData} (T : Txt K mg a) (a0 : 0 ≤ st) (b0 : st < 10 ^ 64) (a1 : 0 ≤ sp) (b1 : sp < 10 ^ 64) (a2 : 0 ≤ wd) (b2 : wd < 10 ^ 64) (hm : MDat m d) : Cal P w K mg base 4 a.f_Each_words ["self"] [] (sp_words a.C_Each "each" [("many", m), ("start", .int st), ("step", .int sp), ("wide", .int wd)] [.int st, .int sp, .int wd, d]) :=
  ⟨⟨_, _, ok_words_E T a0 b0 a1 b1 a2 b2 hm, T.F_Each_words.binds fun _ _ _ _ _ _ => .all fun us hl => match us, hl with | [_], _ => rfl, .nil⟩⟩
theorem ok_words_B {st gp wd : Int} {m : V} {d : PyData} (T : Txt K mg a) (a0 : 0 ≤ st) (b0 : st < 10 ^ 64) (a1 : 0 ≤ gp) (b1 : gp < 10 ^ 64) (a2 : 0 ≤ wd) (b2 : wd < 10 ^ 64) (hm : MDat m d) : FnOk P w K mg base CX0 4 a.f_Behind_words a.fd_Behind_words ["self"] (sp_words a.C_Behind "behind" [("many", m), ("start", .int st), ("gap", .int gp), ("wide", .int wd)] [.int st, .int gp, .int wd, d]) := by
  have c_row_of := cal_row_of (P := P) (w := w) (base := base) T
  have n0 := T.na_Behind_many; have n1 := T.na_Behind_start; have n2 := T.na_Behind_gap; have n3 := T.na_Behind_wide; have cl := T.cl_Behind
  refine T.F_Behind_words.ok sc_Behind_words (fun vs H Q E h => ?_) (fun cdv A outer s H vs Q E hr h => ?_)
  · obtain ⟨_, rfl, _⟩ := h; rfl
  · obtain ⟨v, rfl, hp, q⟩ := h
    have hn : ∀ x ∈ ([.int st, .int gp, .int wd, d] : List PyData), NumOk x := by
      intro x hx
      simp only [List.mem_cons, List.not_mem_nil, or_false] at hx
      rcases hx with rfl | rfl | rfl | rfl
      · exact .int a0 b0
      · exact .int a1 b1
      · exact .int a2 b2
      · exact hm.ok
    refine ⟨_, (pss_one (ps_ret (pn_call c_row_of (hr.mono (by decide)) rfl T.mg_row_of T.kp_row_of (pa_cons pe_str (pa_cons (pe_lstD (pa_cons (pe_fld (pv 0) rfl) (pa_cons (pe_fld (pv 0) rfl) (pa_cons (pe_fld (pv 0) rfl) (pa_cons (pe_fld (pv 0) rfl) pa_nil))))) pa_nil))))), ?_⟩
    repeat' (walk_at "rd1")
    exact q _ (by walk_at "same")
theorem cal_words_B {st gp wd : Int} {m : V} {d : PyData} (T : Txt K mg a) (a0 : 0 ≤ st) (b0 : st < 10 ^ 64) (a1 : 0 ≤ gp) (b1 : gp < 10 ^ 64) (a2 : 0 ≤ wd) (b2 : wd < 10 ^ 64) (hm : MDat m d) : Cal P w K mg base 4 a.f_Behind_words ["self"] [] (sp_words a.C_Behind "behind" [("many", m), ("start", .int st), ("gap", .int gp), ("wide", .int wd)] [.int st, .int gp, .int wd, d]) :=
  ⟨⟨_, _, ok_words_B T a0 b0 a1 b1 a2 b2 hm, T.F_Behind_words.binds fun _ _ _ _ _ _ => .all fun us hl => match us, hl with | [_], _ => rfl, .nil⟩⟩
theorem ok_words_S {st gp mo wd : Int} {m : V} {d : PyData} (T : Txt K mg a) (a0 : 0 ≤ st) (b0 : st < 10 ^ 64) (a1 : 0 ≤ gp) (b1 : gp < 10 ^ 64) (a2 : 0 ≤ mo) (b2 : mo < 10 ^ 64) (a3 : 0 ≤ wd) (b3 : wd < 10 ^ 64) (hm : MDat m d) : FnOk P w K mg base CX0 4 a.f_Slowing_words a.fd_Slowing_words ["self"] (sp_words a.C_Slowing "slowing" [("many", m), ("start", .int st), ("gap", .int gp), ("wide", .int wd), ("most", .int mo)] [.int st, .int gp, .int mo, .int wd, d]) := by
  have c_row_of := cal_row_of (P := P) (w := w) (base := base) T
  have n0 := T.na_Slowing_many; have n1 := T.na_Slowing_start; have n2 := T.na_Slowing_gap; have n3 := T.na_Slowing_wide; have n4 := T.na_Slowing_most; have cl := T.cl_Slowing
  refine T.F_Slowing_words.ok sc_Slowing_words (fun vs H Q E h => ?_) (fun cdv A outer s H vs Q E hr h => ?_)
  · obtain ⟨_, rfl, _⟩ := h; rfl
  · obtain ⟨v, rfl, hp, q⟩ := h
    have hn : ∀ x ∈ ([.int st, .int gp, .int mo, .int wd, d] : List PyData), NumOk x := by
      intro x hx
      simp only [List.mem_cons, List.not_mem_nil, or_false] at hx
      rcases hx with rfl | rfl | rfl | rfl | rfl
      · exact .int a0 b0
      · exact .int a1 b1
      · exact .int a2 b2
      · exact .int a3 b3
      · exact hm.ok
    refine ⟨_, (pss_one (ps_ret (pn_call c_row_of (hr.mono (by decide)) rfl T.mg_row_of T.kp_row_of (pa_cons pe_str (pa_cons (pe_lstD (pa_cons (pe_fld (pv 0) rfl) (pa_cons (pe_fld (pv 0) rfl) (pa_cons (pe_fld (pv 0) rfl) (pa_cons (pe_fld (pv 0) rfl) (pa_cons (pe_fld (pv 0) rfl) pa_nil)))))) pa_nil))))), ?_⟩
    repeat' (walk_at "rd1")
    exact q _ (by walk_at "same")
theorem cal_words_S {st gp mo wd : Int} {m : V} {d : PyData} (T : Txt K mg a) (a0 : 0 ≤ st) (b0 : st < 10 ^ 64) (a1 : 0 ≤ gp) (b1 : gp < 10 ^ 64) (a2 : 0 ≤ mo) (b2 : mo < 10 ^ 64) (a3 : 0 ≤ wd) (b3 : wd < 10 ^ 64) (hm : MDat m d) : Cal P w K mg base 4 a.f_Slowing_words ["self"] [] (sp_words a.C_Slowing "slowing" [("many", m), ("start", .int st), ("gap", .int gp), ("wide", .int wd), ("most", .int mo)] [.int st, .int gp, .int mo, .int wd, d]) :=
  ⟨⟨_, _, ok_words_S T a0 b0 a1 b1 a2 b2 a3 b3 hm, T.F_Slowing_words.binds fun _ _ _ _ _ _ => .all fun us hl => match us, hl with | [_], _ => rfl, .nil⟩⟩
theorem rowS_eq (kd : Str) (ds : List PyData) : rowS kd ds = Str.join (Str.ofString " ") (kd :: ds.map wordS) := PySem.StrLaws.glued_eq_join _ _
theorem rowS_snoc (kd : Str) (ds : List PyData) (c : PyData) : rowS kd (ds ++ [c]) = rowS kd ds ++ Str.ofString " " ++ wordS c := by
  rw [rowS_eq, rowS_eq, List.map_append]
  generalize ds.map wordS = ws
  show Str.join (Str.ofString " ") (kd :: (ws ++ [wordS c])) = Str.join (Str.ofString " ") (kd :: ws) ++ Str.ofString " " ++ wordS c
  induction ws generalizing kd with
  | nil => rfl
  | cons x r ih =>
    show kd ++ Str.ofString " " ++ Str.join (Str.ofString " ") (x :: (r ++ [wordS c])) = (kd ++ Str.ofString " " ++ Str.join (Str.ofString " ") (x :: r)) ++ Str.ofString " " ++ wordS c
    rw [ih x]
    simp only [Str.append_assoc]
theorem joinS_len : ∀ (ws : List Str) (kd : Str), (∀ x ∈ ws, x.length ≤ 65) → (Str.join (Str.ofString " ") (kd :: ws)).length ≤ kd.length + 66 * ws.length
  | [], kd, _ => by show kd.length ≤ kd.length + 66 * 0; omega
  | x :: r, kd, h => by
    have ih := joinS_len r x (fun y hy => h y (List.mem_cons_of_mem _ hy))
    have hx := h x List.mem_cons_self
    have e : (Str.ofString " ").length = 1 := by decide
    show (kd ++ Str.ofString " " ++ Str.join (Str.ofString " ") (x :: r)).length ≤ _
    rw [Str.length_append, Str.length_append, List.length_cons]
    omega
theorem rowS_len {kd : Str} {ds : List PyData} (h : ∀ d ∈ ds, NumOk d) : (rowS kd ds).length ≤ kd.length + 66 * ds.length := by
  rw [rowS_eq]
  have z := joinS_len (ds.map wordS) kd (fun x hx => by obtain ⟨d, hd, rfl⟩ := List.mem_map.mp hx; exact wordS_len (h d hd))
  rw [List.length_map] at z
  exact z
def kdS (k : Int) : Str := if k = 0 then "once" else if k = 1 then "each" else if k = 2 then "behind" else "slowing"
def sp_due : Sp := fun vs H Q _ => ∃ k v ds, vs = [.int k, v] ∧ 0 ≤ k ∧ k < 4 ∧ Dv H v (.list ds) ∧ ds.length ≤ 10 ∧ (∀ d ∈ ds, NumOk d) ∧ ∀ H', Same H H' → Q (.str (rowS (kdS k) ds)) H'
theorem u_due {H : Hp} {Q : VK} {E : XK} {k : Int} {v : V} {ds : List PyData} (h0 : 0 ≤ k) (h1 : k < 4) (h : Dv H v (.list ds)) (hl : ds.length ≤ 10) (hn : ∀ d ∈ ds, NumOk d) (q : ∀ H', Same H H' → Q (.str (rowS (kdS k) ds)) H') : sp_due [.int k, v] H Q E := ⟨k, v, ds, rfl, h0, h1, h, hl, hn, q⟩
theorem ok_due (T : Txt K mg a) : FnOk P w K mg base CX0 1 a.f__law_due a.fd__law_due ["_law_kind", "_law_some"] sp_due := by
  refine T.F__law_due.ok sc__law_due (fun vs H Q E h => ?_) (fun cdv A outer s H vs Q E hr h => ?_)
  · obtain ⟨_, _, _, rfl, _⟩ := h; rfl
  · obtain ⟨k, v, ds, rfl, h0, h1, hd, hl, hn, q⟩ := h
    refine ⟨_, (pss_cutM (ps_set (i := 2) sc__law_due.nd rfl (Or.inl rfl) (pe_ix ix_K (pe_lstD (pa_cons pe_str (pa_cons pe_str (pa_cons pe_str (pa_cons pe_str pa_nil))))) (pv 0) (fun _ _ => rfl)))
      (pss_cut (ps_for PassesOwn.never rfl (pi_list (pv 1)) (pg_name (i := 3) sc__law_due.nd rfl (Or.inl rfl))
        (pss_one (ps_if (pt_cmpR op_isN (pv 3) pe_non (nomark _))
          (pss_one (ps_set (i := 2) sc__law_due.nd rfl (Or.inl rfl) (pe_op op_addS (pv 2) pe_str)))
          (pss_one (ps_set (i := 2) sc__law_due.nd rfl (Or.inl rfl) (pe_op op_addS (pe_op op_addS (pv 2) pe_str) (pe_callTy call_strI rfl T.no_str PyProof.Rows.boot_str (pa_cons (pv 3) pa_nil))))))))
      (pss_one (ps_ret (pv 2))))), ?_⟩
    refine r_cutM (fun σ' H' => Same H H' ∧ σ' = [some (.int k), some v, some (.str (kdS k)), none]) ?_ ?_
    · have h4 : k = 0 ∨ k = 1 ∨ k = 2 ∨ k = 3 := by omega
      repeat' (walk_at "rd1")
      rename_i p1 H1 sm1 hn1 hp1
      have hdv := LAt.dv hp1
      rcases h4 with rfl | rfl | rfl | rfl
      · exact r_ixD (.inr hdv) rfl ⟨sm1, rfl⟩
      · exact r_ixD (.inr hdv) rfl ⟨sm1, rfl⟩
      · exact r_ixD (.inr hdv) rfl ⟨sm1, rfl⟩
      · exact r_ixD (.inr hdv) rfl ⟨sm1, rfl⟩
    rintro σ' H1 ⟨sm1, rfl⟩
    have hkl : (kdS k).length ≤ 8 := by
      unfold kdS
      split
      · decide
      · split
        · decide
        · split <;> decide
    repeat' (walk_at "rd1")
    refine forD (cs := ds) (gd := fun d => d) (by rw [List.map_id']; walk_at "dat") (fun j σ' H' => j ≤ ds.length ∧ H1 = H' ∧ ∃ z, σ' = [some (.int k), some v, some (.str (rowS (kdS k) (ds.take j))), z]) ⟨Nat.zero_le _, rfl, _, rfl⟩ ?_ ?_ ?_
    · rintro i σ' H' hi ⟨_, rfl, _⟩ a' xs e hx
      exact hx
    · rintro j c x σ' H' hc ⟨hj, rfl, z, rfl⟩ _ hx
      have hx' := hx (Same.refl _)
      have hjc : j < ds.length := (List.getElem?_eq_some_iff.mp hc).1
      have hcm : c ∈ ds := List.mem_of_getElem? hc
      have htk : ds.take (j + 1) = ds.take j ++ [c] := by rw [List.take_add_one, hc]; rfl
      have hrl := rowS_len (kd := kdS k) (ds := ds.take j) (fun d hd => hn d (List.mem_of_mem_take hd))
      rw [List.length_take] at hrl
      have e1 : (Str.ofString " ").length = 1 := by decide
      have e5 : (Str.ofString " ever").length = 5 := by decide
      have ea := Str.length_append (rowS (kdS k) (ds.take j)) (Str.ofString " ")
      rcases hn c hcm with rfl | ⟨n, rfl, n0, n1⟩
      · cases hx'
        repeat' (walk_at "rd1")
        refine ⟨by omega, rfl, some .non, ?_⟩
        rw [htk, rowS_snoc, Str.append_assoc]
        rfl
      · cases hx'
        have hf : (Str.ofString (toString n)).length ≤ 65 := figS_len n0 n1
        repeat' (walk_at "rd1")
        refine ⟨by omega, rfl, some (.int n), ?_⟩
        rw [htk, rowS_snoc]
        rfl
    · rintro σ' H' ⟨_, rfl, z, rfl⟩
      rw [List.take_length]
      repeat' (walk_at "rd1")
      exact q _ sm1
theorem cal_due (T : Txt K mg a) : Cal P w K mg base 1 a.f__law_due ["_law_kind", "_law_some"] [] sp_due :=
  ⟨⟨_, _, ok_due T, T.F__law_due.binds fun _ _ _ _ _ _ => .all fun us hl => match us, hl with | [_, _], _ => rfl, .nil⟩⟩
def preEach (args : List V) : Prop := ∃ st sp wd m, args = [.int st, .int sp, .int wd, m] ∧ 0 ≤ st ∧ 1 ≤ sp ∧ 0 ≤ wd ∧ wd < sp ∧ MOk m
theorem ok_Each_init (T : Txt K mg a) : FnOk P w K mg base CX0 4 a.f_Each___init__ a.fd_Each___init__ ["self", "start", "step", "wide", "many"] (spInit a.C_Each preEach fEach) := by
  have c_check_from : Cal P w K mg base 2 a.f_check_from ["number", "least", "what"] [] sp_check := cal_check_from T
  have c_Rule___init__ : Cal P w K mg base 3 a.f_Rule___init__ ["self", "many"] [] (sp_Rule_init a.C_Each) := cal_Rule_init T T.cl_Each T.na_Each_many
  have cl := T.cl_Each
  have n1 := T.na_Each_start; have n2 := T.na_Each_step; have n3 := T.na_Each_wide
  refine T.F_Each___init__.ok sc_Each___init__ (fun vs H Q E h => ?_) (fun cdv A outer s H vs Q E hr h => ?_)
  · obtain ⟨_, _, _, rfl, ⟨_, _, _, _, rfl, _⟩, _⟩ := h; rfl
  · obtain ⟨p, dx, args, rfl, ⟨st, sp, wd, m, rfl, h0, h1, h2, h3, hm⟩, hp, k⟩ := h
    refine ⟨_, (pss_cut (ps_expr (pn_call c_check_from (hr.mono (by decide)) rfl T.mg_check_from T.kp_check_from (pa_cons (pv 1) (pa_cons pe_int (pa_cons pe_str pa_nil)))))
      (pss_cut (ps_expr (pn_call c_check_from (hr.mono (by decide)) rfl T.mg_check_from T.kp_check_from (pa_cons (pv 2) (pa_cons pe_int (pa_cons pe_str pa_nil)))))
      (pss_cut (ps_expr (pn_call c_check_from (hr.mono (by decide)) rfl T.mg_check_from T.kp_check_from (pa_cons (pv 3) (pa_cons pe_int (pa_cons pe_str pa_nil)))))
      (pss_cut (ps_if (pt_cmpR op_ge (pv 3) (pv 2) (nomark _))
        (pss_one ps_never)
        pss_nil)
      (pss_cut (ps_expr (pn_base rfl T.mg_Rule T.B_Rule___init__ c_Rule___init__ (hr.mono (by decide)) (pa_cons (pv 0) (pa_cons (pv 4) pa_nil))))
      (pss_cut (ps_fld (pv 0) (pv 1) rfl)
      (pss_cut (ps_fld (pv 0) (pv 2) rfl)
      (pss_one (ps_fld (pv 0) (pv 3) rfl))))))))), ?_⟩
    repeat' (walk_at "rd1")
    simp only [upd_upd]
    exact k
theorem b_Each_4 (T : Txt K mg a) : Binds K a.fd_Each___init__ ["self", "start", "step", "wide", "many"] [] := T.F_Each___init__.binds fun _ _ _ _ _ _ s us kx hl => by
  obtain ⟨o, n, h1, h2⟩ := T.D_Each___init__.ex
  have hl : us.length = 5 := by simp at hl; omega
  match us, hl with
  | [_, _, _, _, _], _ => exact PySem.W.binds_K kx rfl h1 h2 rfl rfl
theorem cal_Each_4 (T : Txt K mg a) : Cal P w K mg base 4 a.f_Each___init__ ["self", "start", "step", "wide", "many"] [] (spInit a.C_Each preEach fEach) := ⟨⟨_, _, ok_Each_init T, b_Each_4 T, .nil⟩⟩
def rawE (st sp wd n _s : Int) : Int × Int := (st + (n + 1) * sp, st + (n + 1) * sp + wd)
def sp_stretch_of (C : Addr) : Sp := fun vs H Q _ => ∃ v st sp wd m n, vs = [v, .int n] ∧ Ins H v C [("many", m), ("start", .int st), ("step", .int sp), ("wide", .int wd)] ∧ (-(10 ^ 200) < n ∧ n < 10 ^ 200) ∧ (-(10 ^ 200) < sp ∧ sp < 10 ^ 200) ∧ ∀ v' H', Same H H' → Dv H' v' (.tuple [.int (st + n * sp), .int (st + n * sp + wd)]) → Q v' H'
theorem u_stretch_of {C : Addr} {H : Hp} {Q : VK} {E : XK} {v : V} {st sp wd n : Int} {m : V} (hp : Ins H v C [("many", m), ("start", .int st), ("step", .int sp), ("wide", .int wd)]) (h1 : -(10 ^ 200) < n ∧ n < 10 ^ 200) (h2 : -(10 ^ 200) < sp ∧ sp < 10 ^ 200)
    (q : ∀ v' H', Same H H' → Dv H' v' (.tuple [.int (st + n * sp), .int (st + n * sp + wd)]) → Q v' H') : sp_stretch_of C [v, .int n] H Q E := ⟨v, st, sp, wd, m, n, rfl, hp, h1, h2, q⟩
def sp_follow_E (C : Addr) : Sp := fun vs H Q _ => ∃ v st sp wd m n s, vs = [v, .int n, .int s] ∧ MOk m ∧ Ins H v C [("many", m), ("start", .int st), ("step", .int sp), ("wide", .int wd)] ∧ (-(10 ^ 200) < n + 1 ∧ n + 1 < 10 ^ 200) ∧ (-(10 ^ 200) < sp ∧ sp < 10 ^ 200) ∧ ∀ v' H', Same H H' → Dv H' v' (capD m (n + 1) (.tuple [.int (rawE st sp wd n s).1, .int (rawE st sp wd n s).2])) → Q v' H'
theorem u_follow_E {C : Addr} {H : Hp} {Q : VK} {E : XK} {v : V} {st sp wd n s : Int} {m : V} (ho : MOk m) (hp : Ins H v C [("many", m), ("start", .int st), ("step", .int sp), ("wide", .int wd)]) (h1 : -(10 ^ 200) < n + 1 ∧ n + 1 < 10 ^ 200) (h2 : -(10 ^ 200) < sp ∧ sp < 10 ^ 200)
    (q : ∀ v' H', Same H H' → Dv H' v' (capD m (n + 1) (.tuple [.int (rawE st sp wd n s).1, .int (rawE st sp wd n s).2])) → Q v' H') : sp_follow_E C [v, .int n, .int s] H Q E := ⟨v, st, sp, wd, m, n, s, rfl, ho, hp, h1, h2, q⟩
local macro_rules | `(tactic| walk_at "use") => `(tactic| first
  | ((with_reducible refine' u_stretch_of ?e1 ?e2 ?e3 (fun _ _ _ _ => ?_)); (case e1 => walk_at "ins"); (case e2 => walk_at "bd"); (case e3 => walk_at "bd"))
  | ((with_reducible refine' u_follow_E ?e0 ?e1 ?e2 ?e3 (fun _ _ _ _ => ?_)); (case e1 => walk_at "ins"); (case e0 => walk_at "mok"); (case e2 => walk_at "bd"); (case e3 => walk_at "bd")))
theorem ok_stretch_of (T : Txt K mg a) : FnOk P w K mg base CX0 1 a.f_Each_stretch_of a.fd_Each_stretch_of ["self", "number"] (sp_stretch_of a.C_Each) := by
  have cl := T.cl_Each
  have n1 := T.na_Each_start; have n2 := T.na_Each_step; have n3 := T.na_Each_wide
  refine T.F_Each_stretch_of.ok sc_Each_stretch_of (fun vs H Q E h => ?_) (fun cdv A outer s H vs Q E hr h => ?_)
  · obtain ⟨_, _, _, _, _, _, rfl, _⟩ := h; rfl
  · obtain ⟨v, st, sp, wd, m, n, rfl, hp, b1, b2, k⟩ := h
    refine ⟨_, (pss_cut (ps_set (i := 2) sc_Each_stretch_of.nd rfl (Or.inl rfl) (pe_op op_add (pe_fld (pv 0) rfl) (pe_op op_mulB (pv 1) (pe_fld (pv 0) rfl))))
      (pss_one (ps_ret (pe_tupD (pa_cons (pv 2) (pa_cons (pe_op op_add (pv 2) (pe_fld (pv 0) rfl)) pa_nil)))))), ?_⟩
    repeat' (walk_at "rd1")
    (refine k _ _ ?_ ?_; walk_at "same"; walk_at "dat")
theorem cal_stretch_of (T : Txt K mg a) : Cal P w K mg base 1 a.f_Each_stretch_of ["self", "number"] [] (sp_stretch_of a.C_Each) :=
  ⟨⟨_, _, ok_stretch_of T, T.F_Each_stretch_of.binds fun _ _ _ _ _ _ => .all fun us hl => match us, hl with | [_, _], _ => rfl, .nil⟩⟩
theorem ok_follow_E (T : Txt K mg a) : FnOk P w K mg base CX0 2 a.f_Each_follow a.fd_Each_follow ["self", "number", "settled"] (sp_follow_E a.C_Each) := by
  have c_stretch_of : Cal P w K mg base 1 a.f_Each_stretch_of ["self", "number"] [] (sp_stretch_of a.C_Each) := cal_stretch_of T
  have c_place_of : Cal P w K mg base 1 a.f_Rule_place_of ["self", "number", "stretch"] [] (sp_place_of a.C_Each) := cal_place_of T T.cl_Each T.na_Each_many
  have cl := T.cl_Each
  have m_stretch_of := T.m_Each_stretch_of
  have m_place_of := T.m_Each_place_of
  refine T.F_Each_follow.ok sc_Each_follow (fun vs H Q E h => ?_) (fun cdv A outer s H vs Q E hr h => ?_)
  · obtain ⟨_, _, _, _, _, _, _, rfl, _⟩ := h; rfl
  · obtain ⟨v, st, sp, wd, m, n, sd, rfl, ho, hp, b1, b2, k⟩ := h
    refine ⟨_, (pss_one (ps_ret (pe_ix ix_K (pn_meth (pv 0) cl m_place_of c_place_of (hr.mono (by decide)) (pa_cons (pe_op op_add (pv 1) pe_int) (pa_cons (pn_meth (pv 0) cl m_stretch_of c_stretch_of (hr.mono (by decide)) (pa_cons (pe_op op_add (pv 1) pe_int) pa_nil)) pa_nil))) pe_int (fun _ _ => rfl)))), ?_⟩
    repeat' (walk_at "rd1")
    (refine k _ _ ?_ ?_; walk_at "same"; walk_at "dat")
theorem cal_follow_E (T : Txt K mg a) : Cal P w K mg base 2 a.f_Each_follow ["self", "number", "settled"] [] (sp_follow_E a.C_Each) :=
  ⟨⟨_, _, ok_follow_E T, T.F_Each_follow.binds fun _ _ _ _ _ _ => .all fun us hl => match us, hl with | [_, _, _], _ => rfl, .nil⟩⟩
theorem b_Each_2 (T : Txt K mg a) : Binds K a.fd_Each___init__ ["self", "start", "step", "wide", "many"] [.int 0 a.tk_Each___init___0, .none] := T.F_Each___init__.binds fun _ _ _ _ _ _ s us kx hl => by
  obtain ⟨o, n, h1, h2⟩ := T.D_Each___init__.ex
  have hl : us.length = 3 := by simp at hl; omega
  match us, hl with
  | [_, _, _], _ => exact PySem.W.binds_K kx rfl h1 h2 rfl rfl
theorem cal_Each_2 (T : Txt K mg a) : Cal P w K mg base 4 a.f_Each___init__ ["self", "start", "step", "wide", "many"] [.int 0, .non] (spInit a.C_Each preEach fEach) := ⟨⟨_, _, ok_Each_init T, b_Each_2 T, .cons ⟨_, rfl⟩ (.cons rfl .nil)⟩⟩
def preBehind (args : List V) : Prop := ∃ st gp wd m, args = [.int st, .int gp, .int wd, m] ∧ 0 ≤ st ∧ 1 ≤ gp ∧ 0 ≤ wd ∧ MOk m
theorem ok_Behind_init {C : Addr} (T : Txt K mg a) (cl : Cls K C) (n0 : NoAttr K C "many") (n1 : NoAttr K C "start") (n2 : NoAttr K C "gap") (n3 : NoAttr K C "wide") : FnOk P w K mg base CX0 4 a.f_Behind___init__ a.fd_Behind___init__ ["self", "start", "gap", "wide", "many"] (spInit C preBehind fBehind) := by
  have c_check_from : Cal P w K mg base 2 a.f_check_from ["number", "least", "what"] [] sp_check := cal_check_from T
  have c_Rule___init__ : Cal P w K mg base 3 a.f_Rule___init__ ["self", "many"] [] (sp_Rule_init C) := cal_Rule_init T cl n0
  refine T.F_Behind___init__.ok sc_Behind___init__ (fun vs H Q E h => ?_) (fun cdv A outer s H vs Q E hr h => ?_)
  · obtain ⟨_, _, _, rfl, ⟨_, _, _, _, rfl, _⟩, _⟩ := h; rfl
  · obtain ⟨p, dx, args, rfl, ⟨st, gp, wd, m, rfl, h0, h1, h2, hm⟩, hp, k⟩ := h
    refine ⟨_, (pss_cut (ps_expr (pn_call c_check_from (hr.mono (by decide)) rfl T.mg_check_from T.kp_check_from (pa_cons (pv 1) (pa_cons pe_int (pa_cons pe_str pa_nil)))))
      (pss_cut (ps_expr (pn_call c_check_from (hr.mono (by decide)) rfl T.mg_check_from T.kp_check_from (pa_cons (pv 2) (pa_cons pe_int (pa_cons pe_str pa_nil)))))
      (pss_cut (ps_expr (pn_call c_check_from (hr.mono (by decide)) rfl T.mg_check_from T.kp_check_from (pa_cons (pv 3) (pa_cons pe_int (pa_cons pe_str pa_nil)))))
      (pss_cut (ps_expr (pn_base rfl T.mg_Rule T.B_Rule___init__ c_Rule___init__ (hr.mono (by decide)) (pa_cons (pv 0) (pa_cons (pv 4) pa_nil))))
      (pss_cut (ps_fld (pv 0) (pv 1) rfl)
      (pss_cut (ps_fld (pv 0) (pv 2) rfl)
      (pss_one (ps_fld (pv 0) (pv 3) rfl)))))))), ?_⟩
    repeat' (walk_at "rd1")
    simp only [upd_upd]
    exact k
theorem b_Behind_2 (T : Txt K mg a) : Binds K a.fd_Behind___init__ ["self", "start", "gap", "wide", "many"] [.int 0 a.tk_Behind___init___0, .none] := T.F_Behind___init__.binds fun _ _ _ _ _ _ s us kx hl => by
  obtain ⟨o, n, h1, h2⟩ := T.D_Behind___init__.ex
  have hl : us.length = 3 := by simp at hl; omega
  match us, hl with
  | [_, _, _], _ => exact PySem.W.binds_K kx rfl h1 h2 rfl rfl
theorem b_Behind_3 (T : Txt K mg a) : Binds K a.fd_Behind___init__ ["self", "start", "gap", "wide", "many"] [.none] := T.F_Behind___init__.binds fun _ _ _ _ _ _ s us kx hl => by
  obtain ⟨o, n, h1, h2⟩ := T.D_Behind___init__.ex
  have hl : us.length = 4 := by simp at hl; omega
  match us, hl with
  | [_, _, _, _], _ => exact PySem.W.binds_K kx rfl h1 h2 rfl rfl
theorem b_Behind_4 (T : Txt K mg a) : Binds K a.fd_Behind___init__ ["self", "start", "gap", "wide", "many"] [] := T.F_Behind___init__.binds fun _ _ _ _ _ _ s us kx hl => by
  obtain ⟨o, n, h1, h2⟩ := T.D_Behind___init__.ex
  have hl : us.length = 5 := by simp at hl; omega
  match us, hl with
  | [_, _, _, _, _], _ => exact PySem.W.binds_K kx rfl h1 h2 rfl rfl
theorem cal_Behind_2 (T : Txt K mg a) : Cal P w K mg base 4 a.f_Behind___init__ ["self", "start", "gap", "wide", "many"] [.int 0, .non] (spInit a.C_Behind preBehind fBehind) := ⟨⟨_, _, ok_Behind_init T T.cl_Behind T.na_Behind_many T.na_Behind_start T.na_Behind_gap T.na_Behind_wide, b_Behind_2 T, .cons ⟨_, rfl⟩ (.cons rfl .nil)⟩⟩
theorem cal_Behind_3 (T : Txt K mg a) : Cal P w K mg base 4 a.f_Behind___init__ ["self", "start", "gap", "wide", "many"] [.non] (spInit a.C_Behind preBehind fBehind) := ⟨⟨_, _, ok_Behind_init T T.cl_Behind T.na_Behind_many T.na_Behind_start T.na_Behind_gap T.na_Behind_wide, b_Behind_3 T, .cons rfl .nil⟩⟩
theorem cal_Behind_4 (T : Txt K mg a) : Cal P w K mg base 4 a.f_Behind___init__ ["self", "start", "gap", "wide", "many"] [] (spInit a.C_Behind preBehind fBehind) := ⟨⟨_, _, ok_Behind_init T T.cl_Behind T.na_Behind_many T.na_Behind_start T.na_Behind_gap T.na_Behind_wide, b_Behind_4 T, .nil⟩⟩
def sp_gap (C : Addr) (fs : List (Str × V)) (g : Int → Int) : Sp := fun vs H Q _ => ∃ v n, vs = [v, .int n] ∧ Ins H v C fs ∧ 1 ≤ n ∧ n < 10 ^ 200 ∧ Q (.int (g n)) H
theorem u_gap {C : Addr} {fs : List (Str × V)} {g : Int → Int} {H : Hp} {Q : VK} {E : XK} {v : V} {n : Int} (hp : Ins H v C fs) (hn : 1 ≤ n) (hb : n < 10 ^ 200) (q : Q (.int (g n)) H) : sp_gap C fs g [v, .int n] H Q E := ⟨v, n, rfl, hp, hn, hb, q⟩
def sp_follow_B (C : Addr) (fs : List (Str × V)) (g : Int → Int) (wd : Int) (m : V) : Sp := fun vs H Q _ => ∃ v n s, vs = [v, .int n, .int s] ∧ Ins H v C fs ∧ 0 ≤ n ∧ n < 10 ^ 100 ∧ ∀ v' H', Same H H' → Dv H' v' (capD m (n + 1) (.tuple [.int (s + g (n + 1)), .int (s + g (n + 1) + wd)])) → Q v' H'
theorem u_follow_B {C : Addr} {fs : List (Str × V)} {g : Int → Int} {wd : Int} {m : V} {H : Hp} {Q : VK} {E : XK} {v : V} {n s : Int} (hp : Ins H v C fs) (hn : 0 ≤ n) (hb : n < 10 ^ 100) (q : ∀ v' H', Same H H' → Dv H' v' (capD m (n + 1) (.tuple [.int (s + g (n + 1)), .int (s + g (n + 1) + wd)])) → Q v' H') : sp_follow_B C fs g wd m [v, .int n, .int s] H Q E := ⟨v, n, s, rfl, hp, hn, hb, q⟩
def sp_begin_B (C : Addr) (fs : List (Str × V)) (st wd : Int) : Sp := fun vs H Q _ => ∃ v, vs = [v] ∧ Ins H v C fs ∧ ∀ v' H', Same H H' → Dv H' v' (.tuple [.int st, .int (st + wd)]) → Q v' H'
theorem u_begin_B {C : Addr} {fs : List (Str × V)} {st wd : Int} {H : Hp} {Q : VK} {E : XK} {v : V} (hp : Ins H v C fs) (q : ∀ v' H', Same H H' → Dv H' v' (.tuple [.int st, .int (st + wd)]) → Q v' H') : sp_begin_B C fs st wd [v] H Q E := ⟨v, rfl, hp, q⟩
local macro_rules | `(tactic| walk_at "use") => `(tactic| first
  | ((with_reducible refine' u_gap ?e ?e2 ?e3 ?_); (case e => walk_at "ins"); (case e2 => omega); (case e3 => omega))
  | ((with_reducible refine' u_follow_B ?e ?e2 ?e3 (fun _ _ _ _ => ?_)); (case e => walk_at "ins"); (case e2 => omega); (case e3 => omega)))
theorem ok_follow_B {C fg : Addr} {fs : List (Str × V)} {g : Int → Int} {wd : Int} {m : V} (T : Txt K mg a) (cl : Cls K C) (n0 : NoAttr K C "many") (n3 : NoAttr K C "wide") (m_gap_ahead : Meth K C "gap_ahead" fg) (m_place_of : Meth K C "place_of" a.f_Rule_place_of)
    (c_gap_ahead : Cal P w K mg base 1 fg ["self", "number"] [] (sp_gap C fs g)) (ho : MOk m) (l1 : fs.lookup ("many" : Str) = some m) (l2 : fs.lookup ("wide" : Str) = some (.int wd)) (l3 : fs.lookup ("gap_ahead" : Str) = none) (l4 : fs.lookup ("place_of" : Str) = none) :
    FnOk P w K mg base CX0 2 a.f_Behind_follow a.fd_Behind_follow ["self", "number", "settled"] (sp_follow_B C fs g wd m) := by
  have c_place_of : Cal P w K mg base 1 a.f_Rule_place_of ["self", "number", "stretch"] [] (sp_place_of C) := cal_place_of T cl n0
  refine T.F_Behind_follow.ok sc_Behind_follow (fun vs H Q E h => ?_) (fun cdv A outer s H vs Q E hr h => ?_)
  · obtain ⟨_, _, _, rfl, _⟩ := h; rfl
  · obtain ⟨v, n, sd, rfl, hp, hn, hb, k⟩ := h
    refine ⟨_, (pss_cut (ps_set (i := 3) sc_Behind_follow.nd rfl (Or.inl rfl) (pe_op op_add (pv 2) (pn_meth (pv 0) cl m_gap_ahead c_gap_ahead (hr.mono (by decide)) (pa_cons (pe_op op_add (pv 1) pe_int) pa_nil))))
      (pss_one (ps_ret (pe_ix ix_K (pn_meth (pv 0) cl m_place_of c_place_of (hr.mono (by decide)) (pa_cons (pe_op op_add (pv 1) pe_int) (pa_cons (pe_tupD (pa_cons (pv 3) (pa_cons (pe_op op_add (pv 3) (pe_fld (pv 0) rfl)) pa_nil))) pa_nil))) pe_int (fun _ _ => rfl))))), ?_⟩
    repeat' (walk_at "rd1")
    (refine k _ _ ?_ ?_; walk_at "same"; walk_at "dat")
theorem cal_follow_B {C fg : Addr} {fs : List (Str × V)} {g : Int → Int} {wd : Int} {m : V} (T : Txt K mg a) (cl : Cls K C) (n0 : NoAttr K C "many") (n3 : NoAttr K C "wide") (m_gap_ahead : Meth K C "gap_ahead" fg) (m_place_of : Meth K C "place_of" a.f_Rule_place_of)
    (c_gap_ahead : Cal P w K mg base 1 fg ["self", "number"] [] (sp_gap C fs g)) (ho : MOk m) (l1 : fs.lookup ("many" : Str) = some m) (l2 : fs.lookup ("wide" : Str) = some (.int wd)) (l3 : fs.lookup ("gap_ahead" : Str) = none) (l4 : fs.lookup ("place_of" : Str) = none) :
    Cal P w K mg base 2 a.f_Behind_follow ["self", "number", "settled"] [] (sp_follow_B C fs g wd m) :=
  ⟨⟨_, _, ok_follow_B T cl n0 n3 m_gap_ahead m_place_of c_gap_ahead ho l1 l2 l3 l4, T.F_Behind_follow.binds fun _ _ _ _ _ _ => .all fun us hl => match us, hl with | [_, _, _], _ => rfl, .nil⟩⟩
theorem ok_gap_B {st gp wd : Int} {m : V} (T : Txt K mg a) : FnOk P w K mg base CX0 1 a.f_Behind_gap_ahead a.fd_Behind_gap_ahead ["self", "number"] (sp_gap a.C_Behind [("many", m), ("start", .int st), ("gap", .int gp), ("wide", .int wd)] (fun _ => gp)) := by
  have cl := T.cl_Behind
  have n1 := T.na_Behind_gap
  refine T.F_Behind_gap_ahead.ok sc_Behind_gap_ahead (fun vs H Q E h => ?_) (fun cdv A outer s H vs Q E hr h => ?_)
  · obtain ⟨_, _, rfl, _⟩ := h; rfl
  · obtain ⟨v, n, rfl, hp, hn, hb, k⟩ := h
    refine ⟨_, (pss_one (ps_ret (pe_fld (pv 0) rfl))), ?_⟩
    repeat' (walk_at "rd1")
    exact k
theorem cal_gap_B {st gp wd : Int} {m : V} (T : Txt K mg a) : Cal P w K mg base 1 a.f_Behind_gap_ahead ["self", "number"] [] (sp_gap a.C_Behind [("many", m), ("start", .int st), ("gap", .int gp), ("wide", .int wd)] (fun _ => gp)) :=
  ⟨⟨_, _, ok_gap_B T, T.F_Behind_gap_ahead.binds fun _ _ _ _ _ _ => .all fun us hl => match us, hl with | [_, _], _ => rfl, .nil⟩⟩
def sp_spans : Sp := fun vs H Q _ => ∃ e s t, vs = [.int e, .int s, .int t] ∧ 0 < s ∧ s < 10 ^ 200 ∧ Q (.int (steps e s t)) H
theorem u_spans {H : Hp} {Q : VK} {E : XK} {e s t : Int} (h1 : 0 < s) (h2 : s < 10 ^ 200) (q : Q (.int (steps e s t)) H) : sp_spans [.int e, .int s, .int t] H Q E := ⟨e, s, t, rfl, h1, h2, q⟩
theorem ok_spans (T : Txt K mg a) : FnOk P w K mg base CX0 1 a.f_spans_over a.fd_spans_over ["end", "span", "now"] sp_spans := by
  refine T.F_spans_over.ok sc_spans_over (fun vs H Q E h => ?_) (fun cdv A outer s H vs Q E hr h => ?_)
  · obtain ⟨_, _, _, rfl, _⟩ := h; rfl
  · obtain ⟨e, s, t, rfl, h1, h2, k⟩ := h
    refine ⟨_, (pss_one (ps_ret (pe_callB (call_maxP rfl) rfl T.no_max PyProof.Rows.boot_max (pa_cons pe_int (pa_cons (pe_op op_add (pe_op op_fdivB (pe_op op_sub (pv 2) (pv 0)) (pv 1)) pe_int) pa_nil))))), ?_⟩
    repeat' (walk_at "rd1")
    rename_i x hx hx1 hx2
    have e0 : x = steps e s t := by unfold steps; omega
    subst e0
    exact k
theorem cal_spans (T : Txt K mg a) : Cal P w K mg base 1 a.f_spans_over ["end", "span", "now"] [] sp_spans :=
  ⟨⟨_, _, ok_spans T, T.F_spans_over.binds fun _ _ _ _ _ _ => .all fun us hl => match us, hl with | [_, _, _], _ => rfl, .nil⟩⟩
def sp_letby_E (C : Addr) : Sp := fun vs H Q _ => ∃ v st sp wd m n s t, vs = [v, .int n, .int s, .int t] ∧ MOk m ∧ Ins H v C [("many", m), ("start", .int st), ("step", .int sp), ("wide", .int wd)] ∧ 0 ≤ st ∧ 1 ≤ sp ∧ sp < 10 ^ 100 ∧ 0 ≤ wd ∧ 0 ≤ n ∧ n < 10 ^ 100 ∧ t < 10 ^ 100
  ∧ ∀ k x y v' H', Wk (rawE st sp wd) t (n + 1) (rawE st sp wd n s).1 (rawE st sp wd n s).2 k x y → Same H H' → Dv H' v' (.tuple [.int (capN m k), capD m k (.tuple [.int x, .int y])]) → Q v' H'
theorem u_letby_E {C : Addr} {H : Hp} {Q : VK} {E : XK} {v : V} {st sp wd n s t : Int} {m : V} (ho : MOk m) (hp : Ins H v C [("many", m), ("start", .int st), ("step", .int sp), ("wide", .int wd)]) (h0 : 0 ≤ st) (h1 : 1 ≤ sp) (h2 : sp < 10 ^ 100) (h3 : 0 ≤ wd) (h4 : 0 ≤ n) (h5 : n < 10 ^ 100) (h6 : t < 10 ^ 100)
  (q : ∀ k x y v' H', Wk (rawE st sp wd) t (n + 1) (rawE st sp wd n s).1 (rawE st sp wd n s).2 k x y → Same H H' → Dv H' v' (.tuple [.int (capN m k), capD m k (.tuple [.int x, .int y])]) → Q v' H') : sp_letby_E C [v, .int n, .int s, .int t] H Q E := ⟨v, st, sp, wd, m, n, s, t, rfl, ho, hp, h0, h1, h2, h3, h4, h5, h6, q⟩
local macro_rules | `(tactic| walk_at "use") => `(tactic| first
  | ((with_reducible refine' u_spans ?e1 ?e2 ?_); (case e1 => omega); (case e2 => omega))
  | ((with_reducible refine' u_letby_E ?e0 ?e1 ?e2 ?e3 ?e4 ?e5 ?e6 ?e7 ?e8 (fun _ _ _ _ _ _ _ _ => ?_)); (case e1 => walk_at "ins"); (case e0 => walk_at "mok"); (case e2 => omega); (case e3 => omega); (case e4 => omega); (case e5 => omega); (case e6 => omega); (case e7 => omega); (case e8 => omega)))
theorem ok_letby_E (T : Txt K mg a) : FnOk P w K mg base CX0 2 a.f_Each_let_by a.fd_Each_let_by ["self", "number", "last", "now"] (sp_letby_E a.C_Each) := by
  have c_stretch_of : Cal P w K mg base 1 a.f_Each_stretch_of ["self", "number"] [] (sp_stretch_of a.C_Each) := cal_stretch_of T
  have c_place_of : Cal P w K mg base 1 a.f_Rule_place_of ["self", "number", "stretch"] [] (sp_place_of a.C_Each) := cal_place_of T T.cl_Each T.na_Each_many
  have c_spans_over := cal_spans (P := P) (w := w) (base := base) T
  have cl := T.cl_Each
  have n2 := T.na_Each_step
  have m_stretch_of := T.m_Each_stretch_of
  have m_place_of := T.m_Each_place_of
  refine T.F_Each_let_by.ok sc_Each_let_by (fun vs H Q E h => ?_) (fun cdv A outer s H vs Q E hr h => ?_)
  · obtain ⟨_, _, _, _, _, _, _, _, rfl, _⟩ := h; rfl
  · obtain ⟨v, st, sp, wd, m, n, sd, t, rfl, ho, hp, h0, h1, h2, h3, h4, h5, h6, k⟩ := h
    have hm : 0 ≤ (n + 1) * sp := Int.mul_nonneg (by omega) (by omega)
    have hs0 := steps_nn (e := st + (n + 1) * sp + wd) (span := sp) (now := t)
    have hs1 : steps (st + (n + 1) * sp + wd) sp t ≤ 10 ^ 100 + 1 := steps_le (by omega) (by omega) (by decide)
    refine ⟨_, (pss_cut (ps_set (i := 4) sc_Each_let_by.nd rfl (Or.inl rfl) (pe_ix ix_K (pn_meth (pv 0) cl m_stretch_of c_stretch_of (hr.mono (by decide)) (pa_cons (pe_op op_add (pv 1) pe_int) pa_nil)) pe_int (fun _ _ => rfl)))
      (pss_cut (ps_set (i := 5) sc_Each_let_by.nd rfl (Or.inl rfl) (pe_op op_add (pe_op op_add (pv 1) pe_int) (pn_call c_spans_over (hr.mono (by decide)) rfl T.mg_spans_over T.kp_spans_over (pa_cons (pv 4) (pa_cons (pe_fld (pv 0) rfl) (pa_cons (pv 3) pa_nil))))))
      (pss_one (ps_ret (pn_meth (pv 0) cl m_place_of c_place_of (hr.mono (by decide)) (pa_cons (pv 5) (pa_cons (pn_meth (pv 0) cl m_stretch_of c_stretch_of (hr.mono (by decide)) (pa_cons (pv 5) pa_nil)) pa_nil))))))), ?_⟩
    repeat' (walk_at "rd1")
    rename_i hx
    have hw := leap_wk (R := rawE st sp wd) (now := t) (span := sp) (wd := wd) (by omega) _ (num := n + 1) (e := st + (n + 1) * sp + wd) rfl (fun i => by
      unfold rawE
      have e1 : (n + 1 + (i : Int) + 1) * sp = (n + 1) * sp + ((i : Int) + 1) * sp := by rw [← Int.add_mul]; congr 1; omega
      rw [e1]
      refine Prod.ext ?_ ?_ <;> omega)
    have e2 : (n + 1 + steps (st + (n + 1) * sp + wd) sp t) * sp = (n + 1) * sp + steps (st + (n + 1) * sp + wd) sp t * sp := Int.add_mul _ _ _
    have e3 : st + (n + 1) * sp + wd + steps (st + (n + 1) * sp + wd) sp t * sp = st + (n + 1 + steps (st + (n + 1) * sp + wd) sp t) * sp + wd := by rw [e2]; omega
    rw [e3, show st + (n + 1) * sp + wd - wd = st + (n + 1) * sp by omega, show st + (n + 1 + steps (st + (n + 1) * sp + wd) sp t) * sp + wd - wd = st + (n + 1 + steps (st + (n + 1) * sp + wd) sp t) * sp by omega] at hw
    refine k _ _ _ _ _ hw ?_ hx
    walk_at "same"
theorem cal_letby_E (T : Txt K mg a) : Cal P w K mg base 2 a.f_Each_let_by ["self", "number", "last", "now"] [] (sp_letby_E a.C_Each) :=
  ⟨⟨_, _, ok_letby_E T, T.F_Each_let_by.binds fun _ _ _ _ _ _ => .all fun us hl => match us, hl with | [_, _, _, _], _ => rfl, .nil⟩⟩
def sp_leap (C : Addr) (fs : List (Str × V)) (wd : Int) (m : V) : Sp := fun vs H Q _ => ∃ v n e g t, vs = [v, .int n, .int e, .int g, .int t] ∧ Ins H v C fs ∧ 1 ≤ g ∧ g < 10 ^ 101 ∧ 0 ≤ wd ∧ wd < 10 ^ 101 ∧ t - e < 10 ^ 110
  ∧ ∀ v' H', Same H H' → Dv H' v' (.tuple [.int (capN m (n + steps e (g + wd) t)), capD m (n + steps e (g + wd) t) (.tuple [.int (e + steps e (g + wd) t * (g + wd) - wd), .int (e + steps e (g + wd) t * (g + wd))])]) → Q v' H'
theorem u_leap {C : Addr} {fs : List (Str × V)} {wd : Int} {m : V} {H : Hp} {Q : VK} {E : XK} {v : V} {n e g t : Int} (hp : Ins H v C fs) (h1 : 1 ≤ g) (h2 : g < 10 ^ 101) (h3 : 0 ≤ wd) (h4 : wd < 10 ^ 101) (h5 : t - e < 10 ^ 110)
  (q : ∀ v' H', Same H H' → Dv H' v' (.tuple [.int (capN m (n + steps e (g + wd) t)), capD m (n + steps e (g + wd) t) (.tuple [.int (e + steps e (g + wd) t * (g + wd) - wd), .int (e + steps e (g + wd) t * (g + wd))])]) → Q v' H') : sp_leap C fs wd m [v, .int n, .int e, .int g, .int t] H Q E := ⟨v, n, e, g, t, rfl, hp, h1, h2, h3, h4, h5, q⟩
local macro_rules | `(tactic| walk_at "use") => `(tactic| ((with_reducible refine' u_leap ?e1 ?e2 ?e3 ?e4 ?e5 ?e6 (fun _ _ _ _ => ?_)); (case e1 => walk_at "ins"); (case e2 => omega); (case e3 => omega); (case e4 => omega); (case e5 => omega); (case e6 => omega)))
theorem ok_leap {C : Addr} {fs : List (Str × V)} {wd : Int} {m : V} (T : Txt K mg a) (cl : Cls K C) (n0 : NoAttr K C "many") (n3 : NoAttr K C "wide") (m_place_of : Meth K C "place_of" a.f_Rule_place_of) (ho : MOk m) (l1 : fs.lookup ("many" : Str) = some m) (l2 : fs.lookup ("wide" : Str) = some (.int wd)) (l4 : fs.lookup ("place_of" : Str) = none) :
    FnOk P w K mg base CX0 2 a.f_Behind_leap a.fd_Behind_leap ["self", "number", "end", "gap", "now"] (sp_leap C fs wd m) := by
  have c_place_of : Cal P w K mg base 1 a.f_Rule_place_of ["self", "number", "stretch"] [] (sp_place_of C) := cal_place_of T cl n0
  have c_spans_over := cal_spans (P := P) (w := w) (base := base) T
  refine T.F_Behind_leap.ok sc_Behind_leap (fun vs H Q E h => ?_) (fun cdv A outer s H vs Q E hr h => ?_)
  · obtain ⟨_, _, _, _, _, rfl, _⟩ := h; rfl
  · obtain ⟨v, n, e, g, t, rfl, hp, h1, h2, h3, h4, h5, k⟩ := h
    have hs0 := steps_nn (e := e) (span := g + wd) (now := t)
    have hs1 : steps e (g + wd) t ≤ 10 ^ 110 + 1 := steps_le (by omega) (by omega) (by decide)
    refine ⟨_, (pss_cut (ps_set (i := 5) sc_Behind_leap.nd rfl (Or.inl rfl) (pe_op op_add (pv 3) (pe_fld (pv 0) rfl)))
      (pss_cut (ps_set (i := 6) sc_Behind_leap.nd rfl (Or.inl rfl) (pn_call c_spans_over (hr.mono (by decide)) rfl T.mg_spans_over T.kp_spans_over (pa_cons (pv 2) (pa_cons (pv 5) (pa_cons (pv 4) pa_nil)))))
      (pss_cut (ps_set (i := 2) sc_Behind_leap.nd rfl (Or.inl rfl) (pe_op op_add (pv 2) (pe_op op_mulB (pv 6) (pv 5))))
      (pss_one (ps_ret (pn_meth (pv 0) cl m_place_of c_place_of (hr.mono (by decide)) (pa_cons (pe_op op_add (pv 1) (pv 6)) (pa_cons (pe_tupD (pa_cons (pe_op op_sub (pv 2) (pe_fld (pv 0) rfl)) (pa_cons (pv 2) pa_nil))) pa_nil)))))))), ?_⟩
    repeat' (walk_at "rd1")
    (refine k _ _ ?_ ?_; walk_at "same"; walk_at "dat")
theorem cal_leap {C : Addr} {fs : List (Str × V)} {wd : Int} {m : V} (T : Txt K mg a) (cl : Cls K C) (n0 : NoAttr K C "many") (n3 : NoAttr K C "wide") (m_place_of : Meth K C "place_of" a.f_Rule_place_of) (ho : MOk m) (l1 : fs.lookup ("many" : Str) = some m) (l2 : fs.lookup ("wide" : Str) = some (.int wd)) (l4 : fs.lookup ("place_of" : Str) = none) :
    Cal P w K mg base 2 a.f_Behind_leap ["self", "number", "end", "gap", "now"] [] (sp_leap C fs wd m) :=
  ⟨⟨_, _, ok_leap T cl n0 n3 m_place_of ho l1 l2 l4, T.F_Behind_leap.binds fun _ _ _ _ _ _ => .all fun us hl => match us, hl with | [_, _, _, _, _], _ => rfl, .nil⟩⟩
def rawB (gp wd _n s : Int) : Int × Int := (s + gp, s + gp + wd)
structure BIx where
  st : Int
  gp : Int
  wd : Int
  m : V
  ho : MOk m
  h1 : 1 ≤ gp
  h2 : gp < 10 ^ 100
  h3 : 0 ≤ wd
  h4 : wd < 10 ^ 100
abbrev fB (i : BIx) : List (Str × V) := [("many", i.m), ("start", .int i.st), ("gap", .int i.gp), ("wide", .int i.wd)]
def sp_letby_X (C : Addr) (fs : List (Str × V)) (R : Int → Int → Int × Int) (m : V) : Sp := fun vs H Q _ => ∃ v n s t, vs = [v, .int n, .int s, .int t] ∧ Ins H v C fs ∧ 0 ≤ n ∧ n < 10 ^ 100 ∧ t - s < 10 ^ 100
  ∧ ∀ k x y v' H', Wk R t (n + 1) (R n s).1 (R n s).2 k x y → Same H H' → Dv H' v' (.tuple [.int (capN m k), capD m k (.tuple [.int x, .int y])]) → Q v' H'
theorem u_letby_X {C : Addr} {fs : List (Str × V)} {R : Int → Int → Int × Int} {m : V} {H : Hp} {Q : VK} {E : XK} {v : V} {n s t : Int} (hp : Ins H v C fs) (h1 : 0 ≤ n) (h2 : n < 10 ^ 100) (h3 : t - s < 10 ^ 100)
  (q : ∀ k x y v' H', Wk R t (n + 1) (R n s).1 (R n s).2 k x y → Same H H' → Dv H' v' (.tuple [.int (capN m k), capD m k (.tuple [.int x, .int y])]) → Q v' H') : sp_letby_X C fs R m [v, .int n, .int s, .int t] H Q E := ⟨v, n, s, t, rfl, hp, h1, h2, h3, q⟩
theorem ok_letby_B (i : BIx) (T : Txt K mg a) : FnOk P w K mg base CX0 3 a.f_Behind_let_by a.fd_Behind_let_by ["self", "number", "last", "now"] (sp_letby_X a.C_Behind (fB i) (rawB i.gp i.wd) i.m) := by
  obtain ⟨st, gp, wd, m, ho, h1, h2, h3, h4⟩ := i
  have c_leap := cal_leap (P := P) (w := w) (base := base) (C := a.C_Behind) (fs := [("many", m), ("start", .int st), ("gap", .int gp), ("wide", .int wd)]) (wd := wd) (m := m) T T.cl_Behind T.na_Behind_many T.na_Behind_wide T.m_Behind_place_of ho (by walk_at "lk") (by walk_at "lk") (by walk_at "lk")
  have cl := T.cl_Behind
  have n2 := T.na_Behind_gap
  have n3 := T.na_Behind_wide
  have m_leap := T.m_Behind_leap
  refine T.F_Behind_let_by.ok sc_Behind_let_by (fun vs H Q E h => ?_) (fun cdv A outer s H vs Q E hr h => ?_)
  · obtain ⟨_, _, _, _, rfl, _⟩ := h; rfl
  · obtain ⟨v, n, sd, t, rfl, hp, hn, hn2, ht, k⟩ := h
    refine ⟨_, (pss_one (ps_ret (pn_meth (pv 0) cl m_leap c_leap (hr.mono (by decide)) (pa_cons (pe_op op_add (pv 1) pe_int) (pa_cons (pe_op op_add (pe_op op_add (pv 2) (pe_fld (pv 0) rfl)) (pe_fld (pv 0) rfl)) (pa_cons (pe_fld (pv 0) rfl) (pa_cons (pv 3) pa_nil))))))), ?_⟩
    repeat' (walk_at "rd1")
    rename_i hx
    have hw := leap_wk (R := rawB gp wd) (now := t) (span := gp + wd) (wd := wd) (by omega) _ (num := n + 1) (e := sd + gp + wd) rfl (fun i => by
      unfold rawB
      rw [Int.add_mul (i : Int) 1, Int.one_mul]
      refine Prod.ext ?_ ?_ <;> simp only <;> omega)
    rw [show sd + gp + wd - wd = sd + gp by omega] at hw
    refine k _ _ _ _ _ hw ?_ hx
    walk_at "same"
theorem cal_letby_B (i : BIx) (T : Txt K mg a) : Cal P w K mg base 3 a.f_Behind_let_by ["self", "number", "last", "now"] [] (sp_letby_X a.C_Behind (fB i) (rawB i.gp i.wd) i.m) :=
  ⟨⟨_, _, ok_letby_B i T, T.F_Behind_let_by.binds fun _ _ _ _ _ _ => .all fun us hl => match us, hl with | [_, _, _, _], _ => rfl, .nil⟩⟩
def gS (gp mo n : Int) : Int := min (gp * 2 ^ (n - 1).toNat) mo
theorem gS_one {gp mo : Int} (h : gp ≤ mo) : gS gp mo 1 = gp := by
  have e : ((1 : Int) - 1).toNat = 0 := by decide
  unfold gS
  rw [e, Int.pow_zero, Int.mul_one]
  omega
theorem gS_succ {gp mo n : Int} (hn : 1 ≤ n) (h : 0 ≤ mo) : gS gp mo (n + 1) = min (2 * gS gp mo n) mo := by
  unfold gS
  rw [show n + 1 - 1 = n by omega, pow_split (show 0 < n by omega)]
  rw [← Int.mul_assoc, Int.mul_comm gp 2, Int.mul_assoc]
  generalize gp * 2 ^ (n - 1).toNat = x
  omega
theorem gS_pos {gp mo n : Int} (h : 1 ≤ gp) (h2 : gp ≤ mo) : 1 ≤ gS gp mo n := by
  unfold gS
  have h3 := pow_pos' (n - 1).toNat
  have h4 : 1 * 1 ≤ gp * 2 ^ (n - 1).toNat := Int.mul_le_mul h h3 (by decide) (by omega)
  omega
theorem gS_le {gp mo n : Int} : gS gp mo n ≤ mo := by unfold gS; omega
def preSlowing (args : List V) : Prop := ∃ st gp mo wd m, args = [.int st, .int gp, .int mo, .int wd, m] ∧ 0 ≤ st ∧ 1 ≤ gp ∧ gp ≤ mo ∧ 0 ≤ wd ∧ MOk m
local macro_rules | `(tactic| walk_at "use") => `(tactic| ((with_reducible refine' u_init ?e1 ?e2 ?_); (case e2 => walk_at "at"); (case e1 => exact ⟨_, _, _, _, rfl, by omega, by omega, by omega, by walk_at "mok"⟩)))
theorem ok_Slowing_init (T : Txt K mg a) : FnOk P w K mg base CX0 5 a.f_Slowing___init__ a.fd_Slowing___init__ ["self", "start", "gap", "most", "wide", "many"] (spInit a.C_Slowing preSlowing fSlowing) := by
  have c_check_from : Cal P w K mg base 2 a.f_check_from ["number", "least", "what"] [] sp_check := cal_check_from T
  have c_Behind___init__ : Cal P w K mg base 4 a.f_Behind___init__ ["self", "start", "gap", "wide", "many"] [] (spInit a.C_Slowing preBehind fBehind) := ⟨⟨_, _, ok_Behind_init T T.cl_Slowing T.na_Slowing_many T.na_Slowing_start T.na_Slowing_gap T.na_Slowing_wide, b_Behind_4 T, .nil⟩⟩
  have cl := T.cl_Slowing
  have n1 := T.na_Slowing_most
  refine T.F_Slowing___init__.ok sc_Slowing___init__ (fun vs H Q E h => ?_) (fun cdv A outer s H vs Q E hr h => ?_)
  · obtain ⟨_, _, _, rfl, ⟨_, _, _, _, _, rfl, _⟩, _⟩ := h; rfl
  · obtain ⟨p, dx, args, rfl, ⟨st, gp, mo, wd, m, rfl, h0, h1, h2, h3, hm⟩, hp, k⟩ := h
    refine ⟨_, (pss_cut (ps_expr (pn_base rfl T.mg_Behind T.B_Behind___init__ c_Behind___init__ (hr.mono (by decide)) (pa_cons (pv 0) (pa_cons (pv 1) (pa_cons (pv 2) (pa_cons (pv 4) (pa_cons (pv 5) pa_nil)))))))
      (pss_cut (ps_expr (pn_call c_check_from (hr.mono (by decide)) rfl T.mg_check_from T.kp_check_from (pa_cons (pv 3) (pa_cons (pv 2) (pa_cons pe_str pa_nil)))))
      (pss_one (ps_fld (pv 0) (pv 3) rfl)))), ?_⟩
    repeat' (walk_at "rd1")
    simp only [upd_upd]
    exact k
theorem b_Slowing_3 (T : Txt K mg a) : Binds K a.fd_Slowing___init__ ["self", "start", "gap", "most", "wide", "many"] [.int 0 a.tk_Slowing___init___0, .none] := T.F_Slowing___init__.binds fun _ _ _ _ _ _ s us kx hl => by
  obtain ⟨o, n, h1, h2⟩ := T.D_Slowing___init__.ex
  have hl : us.length = 4 := by simp at hl; omega
  match us, hl with
  | [_, _, _, _], _ => exact PySem.W.binds_K kx rfl h1 h2 rfl rfl
theorem b_Slowing_5 (T : Txt K mg a) : Binds K a.fd_Slowing___init__ ["self", "start", "gap", "most", "wide", "many"] [] := T.F_Slowing___init__.binds fun _ _ _ _ _ _ s us kx hl => by
  obtain ⟨o, n, h1, h2⟩ := T.D_Slowing___init__.ex
  have hl : us.length = 6 := by simp at hl; omega
  match us, hl with
  | [_, _, _, _, _, _], _ => exact PySem.W.binds_K kx rfl h1 h2 rfl rfl
theorem cal_Slowing_3 (T : Txt K mg a) : Cal P w K mg base 5 a.f_Slowing___init__ ["self", "start", "gap", "most", "wide", "many"] [.int 0, .non] (spInit a.C_Slowing preSlowing fSlowing) := ⟨⟨_, _, ok_Slowing_init T, b_Slowing_3 T, .cons ⟨_, rfl⟩ (.cons rfl .nil)⟩⟩
theorem cal_Slowing_5 (T : Txt K mg a) : Cal P w K mg base 5 a.f_Slowing___init__ ["self", "start", "gap", "most", "wide", "many"] [] (spInit a.C_Slowing preSlowing fSlowing) := ⟨⟨_, _, ok_Slowing_init T, b_Slowing_5 T, .nil⟩⟩
structure SIx where
  st : Int
  gp : Int
  mo : Int
  wd : Int
  m : V
  ho : MOk m
  h1 : 1 ≤ gp
  h2 : gp ≤ mo
  hb : mo < 10 ^ 100
abbrev fS (i : SIx) : List (Str × V) := [("many", i.m), ("start", .int i.st), ("gap", .int i.gp), ("wide", .int i.wd), ("most", .int i.mo)]
theorem ok_gap_S (i : SIx) (T : Txt K mg a) : FnOk P w K mg base CX0 1 a.f_Slowing_gap_ahead a.fd_Slowing_gap_ahead ["self", "number"] (sp_gap a.C_Slowing (fS i) (gS i.gp i.mo)) := by
  have cl := T.cl_Slowing
  have n1 := T.na_Slowing_gap
  have n2 := T.na_Slowing_most
  obtain ⟨st, gp, mo, wd, m, ho, h1, h2, h3⟩ := i
  refine T.F_Slowing_gap_ahead.ok sc_Slowing_gap_ahead (fun vs H Q E h => ?_) (fun cdv A outer s H vs Q E hr h => ?_)
  · obtain ⟨_, _, rfl, _⟩ := h; rfl
  · obtain ⟨v, n, rfl, hp, hn, hb, k⟩ := h
    refine ⟨_, (pss_cut (ps_set (i := 2) sc_Slowing_gap_ahead.nd rfl (Or.inl rfl) (pe_fld (pv 0) rfl))
      (pss_cut (ps_set (i := 3) sc_Slowing_gap_ahead.nd rfl (Or.inl rfl) (pe_op op_sub (pv 1) pe_int))
      (pss_cut (ps_while PassesOwn.never (PW.pt (pw_and (pt_cmpR op_gt (pv 3) pe_int (nomark _)) (pw_and1 (pt_cmpR op_lt (pv 2) (pe_fld (pv 0) rfl) (nomark _)))))
        (pss_cut (ps_set (i := 2) sc_Slowing_gap_ahead.nd rfl (Or.inl rfl) (pe_op op_mulB (pv 2) pe_int))
        (pss_one (ps_set (i := 3) sc_Slowing_gap_ahead.nd rfl (Or.inl rfl) (pe_op op_sub (pv 3) pe_int)))))
      (pss_one (ps_ret (pe_callB (call_minP rfl) rfl T.no_min PyProof.Rows.boot_min (pa_cons (pv 2) (pa_cons (pe_fld (pv 0) rfl) pa_nil)))))))), ?_⟩
    repeat' (walk_at "rd1")
    refine r_while (fun j σ' H' => ∃ g e, σ' = [some v, some (.int n), some (.int g), some (.int e)] ∧ H' = H ∧ 1 ≤ g ∧ g ≤ 2 * mo ∧ 0 ≤ e ∧ j = e.toNat ∧ min (g * 2 ^ e.toNat) mo = gS gp mo n) ⟨_, gp, n - 1, rfl, rfl, h1, by omega, by omega, rfl, rfl⟩ ?_
    rintro j σ' H' ⟨g, e, rfl, rfl, hg, hg2, he, rfl, hG⟩
    have hp2 : g * 1 ≤ g * 2 ^ e.toNat := Int.mul_le_mul_of_nonneg_left (pow_pos' _) (by omega)
    repeat' (walk_at "rd1")
    · refine ⟨_, ?_, _, _, rfl, rfl, by omega, by omega, by omega, rfl, ?_⟩
      · omega
      · rw [Int.mul_assoc, ← pow_split (by assumption)]; exact hG
    · rename_i x hx hx1 hx2
      have e0 : x = gS gp mo n := by rw [← hG]; omega
      subst e0
      exact k
    · rename_i x hx hx1 hx2
      have e1 : e.toNat = 0 := by omega
      have e0 : x = gS gp mo n := by rw [← hG, e1, Int.pow_zero, Int.mul_one]; omega
      subst e0
      exact k
theorem cal_gap_S (i : SIx) (T : Txt K mg a) : Cal P w K mg base 1 a.f_Slowing_gap_ahead ["self", "number"] [] (sp_gap a.C_Slowing (fS i) (gS i.gp i.mo)) :=
  ⟨⟨_, _, ok_gap_S i T, T.F_Slowing_gap_ahead.binds fun _ _ _ _ _ _ => .all fun us hl => match us, hl with | [_, _], _ => rfl, .nil⟩⟩
theorem gS_top {gp mo N : Int} (h1 : 1 ≤ N) (h0 : 0 ≤ mo) (h : gS gp mo N = mo) (i : Nat) : gS gp mo (N + i) = mo := by
  induction i with
  | zero => simpa using h
  | succ i ih =>
    rw [show N + ((i + 1 : Nat) : Int) = N + (i : Int) + 1 by omega, gS_succ (by omega) h0, ih]
    omega
def rawS (gp mo wd n s : Int) : Int × Int := (s + gS gp mo (n + 1), s + gS gp mo (n + 1) + wd)
structure SLx extends SIx where
  w1 : 0 ≤ wd
  w2 : wd < 10 ^ 100
theorem ok_letby_S (i : SLx) (T : Txt K mg a) : FnOk P w K mg base CX0 3 a.f_Slowing_let_by a.fd_Slowing_let_by ["self", "number", "last", "now"] (sp_letby_X a.C_Slowing (fS i.toSIx) (rawS i.gp i.mo i.wd) i.m) := by
  have c_gap_ahead := cal_gap_S (P := P) (w := w) (base := base) i.toSIx T
  obtain ⟨⟨st, gp, mo, wd, m, ho, h1, h2, hb⟩, w1, w2⟩ := i
  have c_leap := cal_leap (P := P) (w := w) (base := base) (C := a.C_Slowing) (fs := [("many", m), ("start", .int st), ("gap", .int gp), ("wide", .int wd), ("most", .int mo)]) (wd := wd) (m := m) T T.cl_Slowing T.na_Slowing_many T.na_Slowing_wide T.m_Slowing_place_of ho (by walk_at "lk") (by walk_at "lk") (by walk_at "lk")
  have cl := T.cl_Slowing
  have n2 := T.na_Slowing_most
  have n3 := T.na_Slowing_wide
  have m_leap := T.m_Slowing_leap
  have m_gap_ahead := T.m_Slowing_gap_ahead
  dsimp only at c_gap_ahead w1 w2
  refine T.F_Slowing_let_by.ok sc_Slowing_let_by (fun vs H Q E h => ?_) (fun cdv A outer s H vs Q E hr h => ?_)
  · obtain ⟨_, _, _, _, rfl, _⟩ := h; rfl
  · obtain ⟨v, n, sd, t, rfl, hp, hn, hn2, ht, k⟩ := h
    have g1 := gS_pos (n := n + 1) h1 h2
    have g2 := gS_le (gp := gp) (mo := mo) (n := n + 1)
    refine ⟨_, (pss_cut (ps_set (i := 1) sc_Slowing_let_by.nd rfl (Or.inl rfl) (pe_op op_add (pv 1) pe_int))
      (pss_cut (ps_set (i := 4) sc_Slowing_let_by.nd rfl (Or.inl rfl) (pn_meth (pv 0) cl m_gap_ahead c_gap_ahead (hr.mono (by decide)) (pa_cons (pv 1) pa_nil)))
      (pss_cut (ps_set (i := 5) sc_Slowing_let_by.nd rfl (Or.inl rfl) (pe_op op_add (pe_op op_add (pv 2) (pv 4)) (pe_fld (pv 0) rfl)))
      (pss_cutM (ps_while PassesOwn.never (PW.pt (pw_and (pt_cmpR op_le (pv 5) (pv 3) (nomark _)) (pw_and1 (pt_cmpR op_lt (pv 4) (pe_fld (pv 0) rfl) (nomark _)))))
        (pss_cut (ps_set (i := 1) sc_Slowing_let_by.nd rfl (Or.inl rfl) (pe_op op_add (pv 1) pe_int))
        (pss_cut (ps_set (i := 4) sc_Slowing_let_by.nd rfl (Or.inl rfl) (pe_callB (call_minP rfl) rfl T.no_min PyProof.Rows.boot_min (pa_cons (pe_op op_mulB (pv 4) pe_int) (pa_cons (pe_fld (pv 0) rfl) pa_nil))))
        (pss_one (ps_set (i := 5) sc_Slowing_let_by.nd rfl (Or.inl rfl) (pe_op op_add (pe_op op_add (pv 5) (pv 4)) (pe_fld (pv 0) rfl)))))))
      (pss_one (ps_ret (pn_meth (pv 0) cl m_leap c_leap (hr.mono (by decide)) (pa_cons (pv 1) (pa_cons (pv 5) (pa_cons (pv 4) (pa_cons (pv 3) pa_nil))))))))))), ?_⟩
    repeat' (walk_at "rd1")
    refine r_cutM (fun σ' H' => H' = H ∧ ∃ N e, σ' = [some v, some (.int N), some (.int sd), some (.int t), some (.int (gS gp mo N)), some (.int e)] ∧ n + 1 ≤ N ∧ sd ≤ e ∧ (∀ k x y, Wk (rawS gp mo wd) t N (e - wd) e k x y → Wk (rawS gp mo wd) t (n + 1) (rawS gp mo wd n sd).1 (rawS gp mo wd n sd).2 k x y) ∧ (t < e ∨ gS gp mo N = mo)) ?_ ?_
    · refine r_while (fun j σ' H' => H' = H ∧ ∃ N e, σ' = [some v, some (.int N), some (.int sd), some (.int t), some (.int (gS gp mo N)), some (.int e)] ∧ n + 1 ≤ N ∧ sd ≤ e ∧ (∀ k x y, Wk (rawS gp mo wd) t N (e - wd) e k x y → Wk (rawS gp mo wd) t (n + 1) (rawS gp mo wd n sd).1 (rawS gp mo wd n sd).2 k x y) ∧ j = (t + 1 - e).toNat) ⟨_, rfl, n + 1, sd + gS gp mo (n + 1) + wd, rfl, by omega, by omega, ?_, rfl⟩ ?_
      · intro k x y h
        rw [show sd + gS gp mo (n + 1) + wd - wd = sd + gS gp mo (n + 1) by omega] at h
        exact h
      · rintro j σ' H' ⟨rfl, N, e, rfl, hN, he, hW, rfl⟩
        have g3 := gS_pos (n := N) h1 h2
        have g4 := gS_le (gp := gp) (mo := mo) (n := N)
        have g5 := gS_succ (gp := gp) (mo := mo) (n := N) (by omega) (by omega)
        have g6 := gS_pos (n := N + 1) h1 h2
        repeat' (walk_at "rd1")
        · rename_i x hx hx1 hx2
          have e0 : x = gS gp mo (N + 1) := by omega
          subst e0
          refine ⟨_, ?_, rfl, N + 1, e + gS gp mo (N + 1) + wd, rfl, by omega, by omega, ?_, rfl⟩
          · omega
          · intro k x y h
            refine hW _ _ _ (.next (by assumption) ?_)
            rw [show e + gS gp mo (N + 1) + wd - wd = e + gS gp mo (N + 1) by omega] at h
            exact h
        · exact ⟨rfl, N, e, rfl, hN, he, hW, .inr (by omega)⟩
        · exact ⟨rfl, N, e, rfl, hN, he, hW, .inl (by omega)⟩
    · rintro σ' H' ⟨rfl, N, e, rfl, hN, he, hW, hend⟩
      have g3 := gS_pos (n := N) h1 h2
      have g4 := gS_le (gp := gp) (mo := mo) (n := N)
      repeat' (walk_at "rd1")
      rename_i hx
      rcases hend with hend | hend
      · rw [steps_zero (by omega) hend, Int.zero_mul, Int.add_zero, Int.add_zero] at hx
        refine k _ _ _ _ _ (hW _ _ _ (.here hend)) ?_ hx
        walk_at "same"
      · have hw := leap_wk (R := rawS gp mo wd) (now := t) (span := gS gp mo N + wd) (wd := wd) (by omega) _ (num := N) (e := e) rfl (fun i => by
          unfold rawS
          have gt := gS_top (gp := gp) (by omega) (by omega) hend (i + 1)
          rw [show N + (i : Int) + 1 = N + ((i + 1 : Nat) : Int) by omega, gt, hend, Int.add_mul (i : Int) 1, Int.one_mul]
          refine Prod.ext ?_ ?_ <;> simp only <;> omega)
        refine k _ _ _ _ _ (hW _ _ _ hw) ?_ hx
        walk_at "same"
theorem cal_letby_S (i : SLx) (T : Txt K mg a) : Cal P w K mg base 3 a.f_Slowing_let_by ["self", "number", "last", "now"] [] (sp_letby_X a.C_Slowing (fS i.toSIx) (rawS i.gp i.mo i.wd) i.m) :=
  ⟨⟨_, _, ok_letby_S i T, T.F_Slowing_let_by.binds fun _ _ _ _ _ _ => .all fun us hl => match us, hl with | [_, _, _, _], _ => rfl, .nil⟩⟩
def preOnce (args : List V) : Prop := ∃ f, 0 ≤ f ∧ (args = [.int f, .non] ∨ ∃ l, args = [.int f, .int l] ∧ f ≤ l)
theorem ok_Once_init (T : Txt K mg a) : FnOk P w K mg base CX0 4 a.f_Once___init__ a.fd_Once___init__ ["self", "first", "last"] (spInit a.C_Once preOnce fOnce) := by
  have c_check_from : Cal P w K mg base 2 a.f_check_from ["number", "least", "what"] [] sp_check := cal_check_from T
  have c_Rule___init__ : Cal P w K mg base 3 a.f_Rule___init__ ["self", "many"] [] (sp_Rule_init a.C_Once) := cal_Rule_init T T.cl_Once T.na_Once_many
  have cl := T.cl_Once
  have n1 := T.na_Once_first; have n2 := T.na_Once_last
  refine T.F_Once___init__.ok sc_Once___init__ (fun vs H Q E h => ?_) (fun cdv A outer s H vs Q E hr h => ?_)
  · obtain ⟨_, _, _, rfl, ⟨_, _, rfl | ⟨_, rfl, _⟩⟩, _⟩ := h <;> rfl
  · obtain ⟨p, dx, args, rfl, ⟨f, h0, hl⟩, hp, k⟩ := h
    refine ⟨_, (pss_cut (ps_expr (pn_call c_check_from (hr.mono (by decide)) rfl T.mg_check_from T.kp_check_from (pa_cons (pv 1) (pa_cons pe_int (pa_cons pe_str pa_nil)))))
      (pss_cut (ps_if (pt_cmpR op_isN (pv 2) pe_non (nomark _))
        (pss_one (ps_set (i := 2) sc_Once___init__.nd rfl (Or.inl rfl) (pv 1)))
        pss_nil)
      (pss_cut (ps_expr (pn_call c_check_from (hr.mono (by decide)) rfl T.mg_check_from T.kp_check_from (pa_cons (pv 2) (pa_cons (pv 1) (pa_cons pe_str pa_nil)))))
      (pss_cut (ps_expr (pn_base rfl T.mg_Rule T.B_Rule___init__ c_Rule___init__ (hr.mono (by decide)) (pa_cons (pv 0) (pa_cons pe_int pa_nil))))
      (pss_cut (ps_fld (pv 0) (pv 1) rfl)
      (pss_one (ps_fld (pv 0) (pv 2) rfl))))))), ?_⟩
    rcases hl with rfl | ⟨l, rfl, h1⟩
    · repeat' (walk_at "rd1")
      simp only [upd_upd]
      exact k
    · repeat' (walk_at "rd1")
      simp only [upd_upd]
      exact k
theorem b_Once_1 (T : Txt K mg a) : Binds K a.fd_Once___init__ ["self", "first", "last"] [.none] := T.F_Once___init__.binds fun _ _ _ _ _ _ s us kx hl => by
  obtain ⟨o, n, h1, h2⟩ := T.D_Once___init__.ex
  have hl : us.length = 2 := by simp at hl; omega
  match us, hl with
  | [_, _], _ => exact PySem.W.binds_K kx rfl h1 h2 rfl rfl
theorem b_Once_2 (T : Txt K mg a) : Binds K a.fd_Once___init__ ["self", "first", "last"] [] := T.F_Once___init__.binds fun _ _ _ _ _ _ s us kx hl => by
  obtain ⟨o, n, h1, h2⟩ := T.D_Once___init__.ex
  have hl : us.length = 3 := by simp at hl; omega
  match us, hl with
  | [_, _, _], _ => exact PySem.W.binds_K kx rfl h1 h2 rfl rfl
theorem cal_Once_1 (T : Txt K mg a) : Cal P w K mg base 4 a.f_Once___init__ ["self", "first", "last"] [.non] (spInit a.C_Once preOnce fOnce) := ⟨⟨_, _, ok_Once_init T, b_Once_1 T, .cons rfl .nil⟩⟩
theorem cal_Once_2 (T : Txt K mg a) : Cal P w K mg base 4 a.f_Once___init__ ["self", "first", "last"] [] (spInit a.C_Once preOnce fOnce) := ⟨⟨_, _, ok_Once_init T, b_Once_2 T, .nil⟩⟩
def sp_begin_O (C : Addr) : Sp := fun vs H Q _ => ∃ v f l, vs = [v] ∧ Ins H v C [("many", .int 1), ("first", .int f), ("last", .int l)] ∧ ∀ v' H', Same H H' → Dv H' v' (.tuple [.int f, .int l]) → Q v' H'
theorem u_begin_O {C : Addr} {H : Hp} {Q : VK} {E : XK} {v : V} {f l : Int} (hp : Ins H v C [("many", .int 1), ("first", .int f), ("last", .int l)]) (q : ∀ v' H', Same H H' → Dv H' v' (.tuple [.int f, .int l]) → Q v' H') : sp_begin_O C [v] H Q E := ⟨v, f, l, rfl, hp, q⟩
def sp_follow_O : Sp := fun vs H Q _ => ∃ v n s, vs = [v, n, s] ∧ Q .non H
theorem u_follow_O {H : Hp} {Q : VK} {E : XK} {v n s : V} (q : Q .non H) : sp_follow_O [v, n, s] H Q E := ⟨v, n, s, rfl, q⟩
def sp_letby_O : Sp := fun vs H Q _ => ∃ v n s t, vs = [v, n, s, t] ∧ ∀ v' H', Same H H' → Dv H' v' (.tuple [.int 1, .none]) → Q v' H'
theorem u_letby_O {H : Hp} {Q : VK} {E : XK} {v n s t : V} (q : ∀ v' H', Same H H' → Dv H' v' (.tuple [.int 1, .none]) → Q v' H') : sp_letby_O [v, n, s, t] H Q E := ⟨v, n, s, t, rfl, q⟩
local macro_rules | `(tactic| walk_at "use") => `(tactic| first
  | with_reducible refine u_follow_O ?_
  | with_reducible refine u_letby_O (fun _ _ _ _ => ?_))
theorem ok_follow_O (T : Txt K mg a) : FnOk P w K mg base CX0 1 a.f_Once_follow a.fd_Once_follow ["self", "number", "settled"] sp_follow_O := by
  refine T.F_Once_follow.ok sc_Once_follow (fun vs H Q E h => ?_) (fun cdv A outer s H vs Q E hr h => ?_)
  · obtain ⟨_, _, _, rfl, _⟩ := h; rfl
  · obtain ⟨v, n, s, rfl, k⟩ := h
    refine ⟨_, (pss_one (ps_ret pe_non)), ?_⟩
    repeat' (walk_at "rd1")
    exact k
theorem cal_follow_O (T : Txt K mg a) : Cal P w K mg base 1 a.f_Once_follow ["self", "number", "settled"] [] sp_follow_O :=
  ⟨⟨_, _, ok_follow_O T, T.F_Once_follow.binds fun _ _ _ _ _ _ => .all fun us hl => match us, hl with | [_, _, _], _ => rfl, .nil⟩⟩
theorem ok_letby_O (T : Txt K mg a) : FnOk P w K mg base CX0 1 a.f_Once_let_by a.fd_Once_let_by ["self", "number", "last", "now"] sp_letby_O := by
  refine T.F_Once_let_by.ok sc_Once_let_by (fun vs H Q E h => ?_) (fun cdv A outer s H vs Q E hr h => ?_)
  · obtain ⟨_, _, _, _, rfl, _⟩ := h; rfl
  · obtain ⟨v, n, s, t, rfl, k⟩ := h
    refine ⟨_, (pss_one (ps_ret (pe_tupD (pa_cons pe_int (pa_cons pe_non pa_nil))))), ?_⟩
    repeat' (walk_at "rd1")
    (refine k _ _ ?_ ?_; walk_at "same"; walk_at "dat")
theorem cal_letby_O (T : Txt K mg a) : Cal P w K mg base 1 a.f_Once_let_by ["self", "number", "last", "now"] [] sp_letby_O :=
  ⟨⟨_, _, ok_letby_O T, T.F_Once_let_by.binds fun _ _ _ _ _ _ => .all fun us hl => match us, hl with | [_, _, _, _], _ => rfl, .nil⟩⟩
inductive RU where
  | once (f l : Int)
  | each (st sp wd : Int) (m : V)
  | behind (st gp wd : Int) (m : V)
  | slow (st gp mo wd : Int) (m : V)
def mny : RU → V
  | .once _ _ => .int 1
  | .each _ _ _ m => m
  | .behind _ _ _ m => m
  | .slow _ _ _ _ m => m
def raw : RU → Int → Int → Int × Int
  | .once _ _ => fun _ _ => (0, 0)
  | .each st sp wd _ => rawE st sp wd
  | .behind _ gp wd _ => rawB gp wd
  | .slow _ gp mo wd _ => rawS gp mo wd
def RIs (a : Ad) (H : Hp) (v : V) : RU → Prop
  | .once f l => Ins H v a.C_Once [("many", .int 1), ("first", .int f), ("last", .int l)]
  | .each st sp wd m => Ins H v a.C_Each [("many", m), ("start", .int st), ("step", .int sp), ("wide", .int wd)] ∧ MOk m ∧ 0 ≤ st ∧ st < 10 ^ 50 ∧ 1 ≤ sp ∧ sp < 10 ^ 50 ∧ 0 ≤ wd ∧ wd < 10 ^ 50
  | .behind st gp wd m => Ins H v a.C_Behind [("many", m), ("start", .int st), ("gap", .int gp), ("wide", .int wd)] ∧ MOk m ∧ 1 ≤ gp ∧ gp < 10 ^ 50 ∧ 0 ≤ wd ∧ wd < 10 ^ 50
  | .slow st gp mo wd m => Ins H v a.C_Slowing [("many", m), ("start", .int st), ("gap", .int gp), ("wide", .int wd), ("most", .int mo)] ∧ MOk m ∧ 1 ≤ gp ∧ gp ≤ mo ∧ mo < 10 ^ 50 ∧ 0 ≤ wd ∧ wd < 10 ^ 50
theorem RIs.keeps {H H' : Hp} {v : V} {r : RU} (s : Same H H') (h : RIs a H v r) : RIs a H' v r := by
  cases r with
  | once => exact Ins.keeps s h
  | each => exact ⟨Ins.keeps s h.1, h.2⟩
  | behind => exact ⟨Ins.keeps s h.1, h.2⟩
  | slow => exact ⟨Ins.keeps s h.1, h.2⟩
local macro_rules | `(tactic| walk_at "ris") => `(tactic| first
  | assumption
  | (refine' RIs.keeps ?s ?m; (case s => assumption); (case m => walk_at "ris")))
def sp_follow_BX (C : Addr) : Sp := fun vs H Q E => ∃ i : BIx, sp_follow_B C (fB i) (fun _ => i.gp) i.wd i.m vs H Q E
theorem cal_follow_BX (T : Txt K mg a) : Cal P w K mg base 2 a.f_Behind_follow ["self", "number", "settled"] [] (sp_follow_BX a.C_Behind) :=
  ⟨⟨_, _, FnOk.ex fun i : BIx => ok_follow_B T T.cl_Behind T.na_Behind_many T.na_Behind_wide T.m_Behind_gap_ahead T.m_Behind_place_of (cal_gap_B T) i.ho (by walk_at "lk") (by walk_at "lk") (by walk_at "lk") (by walk_at "lk"), T.F_Behind_follow.binds fun _ _ _ _ _ _ => .all fun us hl => match us, hl with | [_, _, _], _ => rfl, .nil⟩⟩
def sp_follow_SX (C : Addr) : Sp := fun vs H Q E => ∃ i : SIx, sp_follow_B C (fS i) (gS i.gp i.mo) i.wd i.m vs H Q E
theorem cal_follow_SX (T : Txt K mg a) : Cal P w K mg base 2 a.f_Behind_follow ["self", "number", "settled"] [] (sp_follow_SX a.C_Slowing) :=
  ⟨⟨_, _, FnOk.ex fun i : SIx => ok_follow_B T T.cl_Slowing T.na_Slowing_many T.na_Slowing_wide T.m_Slowing_gap_ahead T.m_Slowing_place_of (cal_gap_S i T) i.ho (by walk_at "lk") (by walk_at "lk") (by walk_at "lk") (by walk_at "lk"), T.F_Behind_follow.binds fun _ _ _ _ _ _ => .all fun us hl => match us, hl with | [_, _, _], _ => rfl, .nil⟩⟩
def sp_letby_BX (C : Addr) : Sp := fun vs H Q E => ∃ i : BIx, sp_letby_X C (fB i) (rawB i.gp i.wd) i.m vs H Q E
theorem cal_letby_BX (T : Txt K mg a) : Cal P w K mg base 3 a.f_Behind_let_by ["self", "number", "last", "now"] [] (sp_letby_BX a.C_Behind) :=
  ⟨⟨_, _, FnOk.ex fun i : BIx => ok_letby_B i T, T.F_Behind_let_by.binds fun _ _ _ _ _ _ => .all fun us hl => match us, hl with | [_, _, _, _], _ => rfl, .nil⟩⟩
def sp_letby_SX (C : Addr) : Sp := fun vs H Q E => ∃ i : SLx, sp_letby_X C (fS i.toSIx) (rawS i.gp i.mo i.wd) i.m vs H Q E
theorem cal_letby_SX (T : Txt K mg a) : Cal P w K mg base 3 a.f_Slowing_let_by ["self", "number", "last", "now"] [] (sp_letby_SX a.C_Slowing) :=
  ⟨⟨_, _, FnOk.ex fun i : SLx => ok_letby_S i T, T.F_Slowing_let_by.binds fun _ _ _ _ _ _ => .all fun us hl => match us, hl with | [_, _, _, _], _ => rfl, .nil⟩⟩
theorem cap_split {m : V} {n : Int} {d : PyData} (ho : MOk m) {H : Hp} {Q : VK} (q1 : ∀ i H', m = .int i → i ≤ n → Same H H' → Q .non H') (q2 : ∀ v' H', (∀ i, m = .int i → ¬ i ≤ n) → Same H H' → Dv H' v' d → Q v' H') : ∀ v' H', Same H H' → Dv H' v' (capD m n d) → Q v' H' := by
  intro v' H' hs hd
  rcases ho with rfl | ⟨i, rfl, hi⟩
  · exact q2 v' H' (fun i e => by cases e) hs hd
  · by_cases h : i ≤ n
    · rw [capD_le h] at hd
      cases hd
      exact q1 i H' rfl h hs
    · rw [capD_gt h] at hd
      exact q2 v' H' (fun j e => by cases e; exact h) hs hd
theorem res_split {m : V} (ho : MOk m) {H : Hp} {Q : VK} {W : Int → Int → Int → Prop} (q1 : ∀ i k x y v' H', m = .int i → i ≤ k → W k x y → Same H H' → Dv H' v' (.tuple [.int i, .none]) → Q v' H')
    (q2 : ∀ k x y v' H', (∀ i, m = .int i → ¬ i ≤ k) → W k x y → Same H H' → Dv H' v' (.tuple [.int k, .tuple [.int x, .int y]]) → Q v' H') :
    ∀ k x y v' H', W k x y → Same H H' → Dv H' v' (.tuple [.int (capN m k), capD m k (.tuple [.int x, .int y])]) → Q v' H' := by
  intro k x y v' H' hw hs hd
  rcases ho with rfl | ⟨i, rfl, hi⟩
  · exact q2 k x y v' H' (fun i e => by cases e) hw hs hd
  · by_cases h : i ≤ k
    · rw [capN_le h, capD_le h] at hd
      exact q1 i k x y v' H' rfl h hw hs hd
    · rw [capN_gt h, capD_gt h] at hd
      exact q2 k x y v' H' (fun j e => by cases e; exact h) hw hs hd
theorem u_fE {C : Addr} {H : Hp} {Q : VK} {E : XK} {v : V} {st sp wd n s : Int} {m : V} (hp : Ins H v C [("many", m), ("start", .int st), ("step", .int sp), ("wide", .int wd)]) (ho : MOk m) (h1 : 0 ≤ n) (h2 : n < 10 ^ 60) (h3 : 1 ≤ sp) (h4 : sp < 10 ^ 50)
    (q1 : ∀ i H', m = .int i → i ≤ n + 1 → Same H H' → Q .non H') (q2 : ∀ v' H', (∀ i, m = .int i → ¬ i ≤ n + 1) → Same H H' → Dv H' v' (.tuple [.int (st + (n + 1) * sp), .int (st + (n + 1) * sp + wd)]) → Q v' H') : sp_follow_E C [v, .int n, .int s] H Q E :=
  u_follow_E ho hp ⟨by omega, by omega⟩ ⟨by omega, by omega⟩ (cap_split ho q1 q2)
theorem u_fB {C : Addr} {H : Hp} {Q : VK} {E : XK} {v : V} {st gp wd n s : Int} {m : V} (hp : Ins H v C [("many", m), ("start", .int st), ("gap", .int gp), ("wide", .int wd)]) (ho : MOk m) (h1 : 0 ≤ n) (h2 : n < 10 ^ 60) (h3 : 1 ≤ gp) (h4 : gp < 10 ^ 50) (h5 : 0 ≤ wd) (h6 : wd < 10 ^ 50)
    (q1 : ∀ i H', m = .int i → i ≤ n + 1 → Same H H' → Q .non H') (q2 : ∀ v' H', (∀ i, m = .int i → ¬ i ≤ n + 1) → Same H H' → Dv H' v' (.tuple [.int (s + gp), .int (s + gp + wd)]) → Q v' H') : sp_follow_BX C [v, .int n, .int s] H Q E :=
  ⟨⟨st, gp, wd, m, ho, h3, by omega, h5, by omega⟩, u_follow_B hp h1 (by omega) (cap_split ho q1 q2)⟩
theorem u_fS {C : Addr} {H : Hp} {Q : VK} {E : XK} {v : V} {st gp mo wd n s : Int} {m : V} (hp : Ins H v C [("many", m), ("start", .int st), ("gap", .int gp), ("wide", .int wd), ("most", .int mo)]) (ho : MOk m) (h1 : 0 ≤ n) (h2 : n < 10 ^ 60) (h3 : 1 ≤ gp) (h4 : gp ≤ mo) (h5 : mo < 10 ^ 50)
    (q1 : ∀ i H', m = .int i → i ≤ n + 1 → Same H H' → Q .non H') (q2 : ∀ v' H' g, g = gS gp mo (n + 1) → 1 ≤ g → g ≤ mo → (∀ i, m = .int i → ¬ i ≤ n + 1) → Same H H' → Dv H' v' (.tuple [.int (s + g), .int (s + g + wd)]) → Q v' H') : sp_follow_SX C [v, .int n, .int s] H Q E :=
  ⟨⟨st, gp, mo, wd, m, ho, h3, h4, by omega⟩, u_follow_B hp h1 (by omega) (cap_split ho q1 fun v' H' => q2 v' H' _ rfl (gS_pos h3 h4) gS_le)⟩
theorem u_lE {C : Addr} {H : Hp} {Q : VK} {E : XK} {v : V} {st sp wd n s t : Int} {m : V} (hp : Ins H v C [("many", m), ("start", .int st), ("step", .int sp), ("wide", .int wd)]) (ho : MOk m) (h0 : 0 ≤ st) (h1 : 1 ≤ sp) (h2 : sp < 10 ^ 50) (h3 : 0 ≤ wd) (h4 : 0 ≤ n) (h5 : n < 10 ^ 99) (h6 : t < 10 ^ 80)
    (q1 : ∀ i k x y v' H', m = .int i → i ≤ k → Wk (rawE st sp wd) t (n + 1) (rawE st sp wd n s).1 (rawE st sp wd n s).2 k x y → Same H H' → Dv H' v' (.tuple [.int i, .none]) → Q v' H')
    (q2 : ∀ k x y v' H', (∀ i, m = .int i → ¬ i ≤ k) → Wk (rawE st sp wd) t (n + 1) (rawE st sp wd n s).1 (rawE st sp wd n s).2 k x y → Same H H' → Dv H' v' (.tuple [.int k, .tuple [.int x, .int y]]) → Q v' H') : sp_letby_E C [v, .int n, .int s, .int t] H Q E :=
  u_letby_E ho hp h0 h1 (by omega) h3 h4 (by omega) (by omega) (res_split ho q1 q2)
theorem u_lB {C : Addr} {H : Hp} {Q : VK} {E : XK} {v : V} {st gp wd n s t : Int} {m : V} (hp : Ins H v C [("many", m), ("start", .int st), ("gap", .int gp), ("wide", .int wd)]) (ho : MOk m) (h3 : 1 ≤ gp) (h4 : gp < 10 ^ 50) (h5 : 0 ≤ wd) (h6 : wd < 10 ^ 50) (h1 : 0 ≤ n) (h2 : n < 10 ^ 99) (h7 : t - s < 10 ^ 80)
    (q1 : ∀ i k x y v' H', m = .int i → i ≤ k → Wk (rawB gp wd) t (n + 1) (rawB gp wd n s).1 (rawB gp wd n s).2 k x y → Same H H' → Dv H' v' (.tuple [.int i, .none]) → Q v' H')
    (q2 : ∀ k x y v' H', (∀ i, m = .int i → ¬ i ≤ k) → Wk (rawB gp wd) t (n + 1) (rawB gp wd n s).1 (rawB gp wd n s).2 k x y → Same H H' → Dv H' v' (.tuple [.int k, .tuple [.int x, .int y]]) → Q v' H') : sp_letby_BX C [v, .int n, .int s, .int t] H Q E :=
  ⟨⟨st, gp, wd, m, ho, h3, by omega, h5, by omega⟩, u_letby_X hp h1 (by omega) (by omega) (res_split ho q1 q2)⟩
theorem u_lS {C : Addr} {H : Hp} {Q : VK} {E : XK} {v : V} {st gp mo wd n s t : Int} {m : V} (hp : Ins H v C [("many", m), ("start", .int st), ("gap", .int gp), ("wide", .int wd), ("most", .int mo)]) (ho : MOk m) (h3 : 1 ≤ gp) (h4 : gp ≤ mo) (h5 : mo < 10 ^ 50) (h6 : 0 ≤ wd) (h8 : wd < 10 ^ 50) (h1 : 0 ≤ n) (h2 : n < 10 ^ 99) (h7 : t - s < 10 ^ 80)
    (q1 : ∀ i k x y v' H', m = .int i → i ≤ k → Wk (rawS gp mo wd) t (n + 1) (rawS gp mo wd n s).1 (rawS gp mo wd n s).2 k x y → Same H H' → Dv H' v' (.tuple [.int i, .none]) → Q v' H')
    (q2 : ∀ k x y v' H', (∀ i, m = .int i → ¬ i ≤ k) → Wk (rawS gp mo wd) t (n + 1) (rawS gp mo wd n s).1 (rawS gp mo wd n s).2 k x y → Same H H' → Dv H' v' (.tuple [.int k, .tuple [.int x, .int y]]) → Q v' H') : sp_letby_SX C [v, .int n, .int s, .int t] H Q E :=
  ⟨⟨⟨st, gp, mo, wd, m, ho, h3, h4, by omega⟩, h6, Int.lt_trans h8 (by decide)⟩, u_letby_X hp h1 (by omega) (by omega) (res_split ho q1 q2)⟩
local macro_rules | `(tactic| walk_at "om") => `(tactic| omega)
local macro_rules | `(tactic| walk_at "use") => `(tactic| first
  | ((with_reducible refine' u_fE ?e0 ?e1 ?e2 ?e3 ?e4 ?e5 (fun i H' e h1 h2 => ?q1) (fun v H' h h1 h2 => ?q2)); (case e0 => walk_at "ins"); (case e1 => walk_at "mok"); (case e2 => omega); (case e3 => omega); (case e4 => omega); (case e5 => omega); (case' q1 => (try cases e)); (case' q2 => (try (have hc := h _ rfl))))
  | ((with_reducible refine' u_fB ?e0 ?e1 ?e2 ?e3 ?e4 ?e5 ?e6 ?e7 (fun i H' e h1 h2 => ?q1) (fun v H' h h1 h2 => ?q2)); (case e0 => walk_at "ins"); (case e1 => walk_at "mok"); (case e2 => omega); (case e3 => omega); (case e4 => omega); (case e5 => omega); (case e6 => omega); (case e7 => omega); (case' q1 => (try cases e)); (case' q2 => (try (have hc := h _ rfl))))
  | ((with_reducible refine' u_fS ?e0 ?e1 ?e2 ?e3 ?e4 ?e5 ?e6 (fun i H' e h1 h2 => ?q1) (fun v H' g g0 g1 g2 h h1 h2 => ?q2)); (case e0 => walk_at "ins"); (case e1 => walk_at "mok"); (case e2 => omega); (case e3 => omega); (case e4 => omega); (case e5 => omega); (case e6 => omega); (case' q1 => (try cases e)); (case' q2 => (try (have hc := h _ rfl))))
  | ((with_reducible refine' u_lE ?e0 ?e1 ?e2 ?e3 ?e4 ?e5 ?e6 ?e7 ?e8 (fun i k x y v H' e h1 h2 h3 h4 => ?q1) (fun k x y v H' h h1 h2 h3 => ?q2)); (case e0 => walk_at "ins"); (case e1 => walk_at "mok"); (case e2 => omega); (case e3 => omega); (case e4 => omega); (case e5 => omega); (case e6 => omega); (case e7 => omega); (case e8 => omega); (case' q1 => (try cases e)); (case' q2 => (try (have hc := h _ rfl))))
  | ((with_reducible refine' u_lB ?e0 ?e1 ?e2 ?e3 ?e4 ?e5 ?e6 ?e7 ?e8 (fun i k x y v H' e h1 h2 h3 h4 => ?q1) (fun k x y v H' h h1 h2 h3 => ?q2)); (case e0 => walk_at "ins"); (case e1 => walk_at "mok"); (case e2 => omega); (case e3 => omega); (case e4 => omega); (case e5 => omega); (case e6 => omega); (case e7 => omega); (case e8 => omega); (case' q1 => (try cases e)); (case' q2 => (try (have hc := h _ rfl))))
  | ((with_reducible refine' u_lS ?e0 ?e1 ?e2 ?e3 ?e4 ?e5 ?e6 ?e7 ?e8 ?e9 (fun i k x y v H' e h1 h2 h3 h4 => ?q1) (fun k x y v H' h h1 h2 h3 => ?q2)); (case e0 => walk_at "ins"); (case e1 => walk_at "mok"); (case e2 => omega); (case e3 => omega); (case e4 => omega); (case e5 => omega); (case e6 => omega); (case e7 => omega); (case e8 => omega); (case e9 => omega); (case' q1 => (try cases e)); (case' q2 => (try (have hc := h _ rfl)))))
def mD : V → PyData
  | .int i => .int i
  | _ => .none
def dsR : RU → List PyData
  | .once f l => [.int f, .int l]
  | .each st sp wd m => [.int st, .int sp, .int wd, mD m]
  | .behind st gp wd m => [.int st, .int gp, .int wd, mD m]
  | .slow st gp mo wd m => [.int st, .int gp, .int mo, .int wd, mD m]
def kR : RU → Int
  | .once _ _ => 0
  | .each _ _ _ _ => 1
  | .behind _ _ _ _ => 2
  | .slow _ _ _ _ _ => 3
def BV (m : V) : Prop := m = .non ∨ ∃ i, m = .int i ∧ 1 ≤ i ∧ i < 10 ^ 45
def GoodN (B : Int) : RU → Prop
  | .once f l => 0 ≤ f ∧ f ≤ l ∧ l < B
  | .each st sp wd m => 0 ≤ st ∧ st < B ∧ 1 ≤ sp ∧ sp < B ∧ 0 ≤ wd ∧ wd < sp ∧ BV m
  | .behind st gp wd m => 0 ≤ st ∧ st < B ∧ 1 ≤ gp ∧ gp < B ∧ 0 ≤ wd ∧ wd < B ∧ BV m
  | .slow st gp mo wd m => 0 ≤ st ∧ st < B ∧ 1 ≤ gp ∧ gp ≤ mo ∧ mo < B ∧ 0 ≤ wd ∧ wd < B ∧ BV m
def GoodR (r : RU) : Prop := GoodN (10 ^ 45) r
def BareR : RU → Prop
  | .once f l => f = l
  | .each _ _ wd m => wd = 0 ∧ m = .non
  | .behind _ _ wd m => wd = 0 ∧ m = .non
  | .slow _ _ _ wd m => wd = 0 ∧ m = .non
def bump1 : RU → RU
  | .once f l => .once (f + 1) (l + 1)
  | .each st sp wd m => .each (st + 1) (sp + 1) wd m
  | .behind st gp wd m => .behind (st + 1) (gp + 1) wd m
  | .slow st gp mo wd m => .slow (st + 1) (gp + 1) mo wd m
def bump : RU → RU
  | .slow st gp mo wd m => .slow (st + 1) (gp + 1) (mo + 1) wd m
  | r => bump1 r
theorem BV.mok {m : V} (h : BV m) : MOk m := by
  rcases h with h | ⟨i, h, h1, _⟩
  · exact .inl h
  · exact .inr ⟨i, h, h1⟩
theorem BV.md {m : V} (h : BV m) : MDat m (mD m) := by
  rcases h with rfl | ⟨i, rfl, h1, h2⟩
  · exact .inl ⟨rfl, rfl⟩
  · exact .inr ⟨i, rfl, rfl, by omega, by omega⟩
theorem GoodN.good {r : RU} (h : GoodN (10 ^ 41) r) : GoodR r := by
  cases r with
  | once f l => obtain ⟨h0, h1, h2⟩ := h; exact ⟨h0, h1, by omega⟩
  | each st sp wd m => obtain ⟨h0, h1, h2, h3, h4, h5, h6⟩ := h; exact ⟨h0, by omega, h2, by omega, h4, h5, h6⟩
  | behind st gp wd m => obtain ⟨h0, h1, h2, h3, h4, h5, h6⟩ := h; exact ⟨h0, by omega, h2, by omega, h4, by omega, h6⟩
  | slow st gp mo wd m => obtain ⟨h0, h1, h2, h3, h4, h5, h6, h7⟩ := h; exact ⟨h0, by omega, h2, h3, by omega, h5, by omega, h7⟩
theorem GoodN.bump {r : RU} (h : GoodN (10 ^ 41) r) : GoodR (bump r) := by
  cases r with
  | once f l => obtain ⟨h0, h1, h2⟩ := h; exact ⟨by omega, by omega, by omega⟩
  | each st sp wd m => obtain ⟨h0, h1, h2, h3, h4, h5, h6⟩ := h; exact ⟨by omega, by omega, by omega, by omega, h4, by omega, h6⟩
  | behind st gp wd m => obtain ⟨h0, h1, h2, h3, h4, h5, h6⟩ := h; exact ⟨by omega, by omega, by omega, by omega, h4, by omega, h6⟩
  | slow st gp mo wd m => obtain ⟨h0, h1, h2, h3, h4, h5, h6, h7⟩ := h; exact ⟨by omega, by omega, by omega, by omega, by omega, h5, by omega, h7⟩
theorem kR_bump (r : RU) : kR (bump r) = kR r := by cases r <;> rfl
theorem GoodR.len (r : RU) : (dsR r).length ≤ 10 := by cases r <;> exact Nat.le_of_ble_eq_true rfl
theorem GoodR.num {r : RU} (h : GoodR r) : ∀ d ∈ dsR r, NumOk d := by
  intro x hx
  cases r with
  | once f l =>
    obtain ⟨h0, h1, h2⟩ := h
    simp only [dsR, List.mem_cons, List.not_mem_nil, or_false] at hx
    rcases hx with rfl | rfl
    · exact .int h0 (by omega)
    · exact .int (by omega) (by omega)
  | each st sp wd m =>
    obtain ⟨h0, h1, h2, h3, h4, h5, h6⟩ := h
    simp only [dsR, List.mem_cons, List.not_mem_nil, or_false] at hx
    rcases hx with rfl | rfl | rfl | rfl
    · exact .int h0 (by omega)
    · exact .int (by omega) (by omega)
    · exact .int (by omega) (by omega)
    · exact h6.md.ok
  | behind st gp wd m =>
    obtain ⟨h0, h1, h2, h3, h4, h5, h6⟩ := h
    simp only [dsR, List.mem_cons, List.not_mem_nil, or_false] at hx
    rcases hx with rfl | rfl | rfl | rfl
    · exact .int h0 (by omega)
    · exact .int (by omega) (by omega)
    · exact .int (by omega) (by omega)
    · exact h6.md.ok
  | slow st gp mo wd m =>
    obtain ⟨h0, h1, h2, h3, h4, h5, h6, h7⟩ := h
    simp only [dsR, List.mem_cons, List.not_mem_nil, or_false] at hx
    rcases hx with rfl | rfl | rfl | rfl | rfl
    · exact .int h0 (by omega)
    · exact .int (by omega) (by omega)
    · exact .int (by omega) (by omega)
    · exact .int (by omega) (by omega)
    · exact h7.md.ok
def sp_numbers (K : PySem.W.Frag) : Sp := fun vs H Q _ => ∃ (k : Int) (l : Addr) (ns : List Int) (b : Bool), vs = [.int k, .ref l, .bl b] ∧ 0 ≤ k ∧ k < 4 ∧ SqL K H l (ns.map V.int) ∧ ∀ p H' r, Same H H' → H p = none → GoodN (10 ^ 41) r → kR r = k → (b = true → BareR r) → LAt H' p (dsR r) → Q (.ref p) H'
theorem u_numbers {H : Hp} {Q : VK} {E : XK} {k : Int} {l : Addr} {ns : List Int} {b : Bool} (h0 : 0 ≤ k) (h1 : k < 4) (h : SqL K H l (ns.map V.int)) (q : ∀ p H' r, Same H H' → H p = none → GoodN (10 ^ 41) r → kR r = k → (b = true → BareR r) → LAt H' p (dsR r) → Q (.ref p) H') : sp_numbers K [.int k, .ref l, .bl b] H Q E := ⟨k, l, ns, b, rfl, h0, h1, h, q⟩
theorem ok_numbers (T : Txt K mg a) : FnOk P w K mg base CX0 2 a.f__law_numbers a.fd__law_numbers ["_law_kind", "_law_script", "_law_bare_here"] (sp_numbers K) := by
  have c__law_cell_at := cal_law_cell_at (P := P) (w := w) (base := base) T
  have c__law_number := cal_law_number (P := P) (w := w) (base := base) T
  refine T.F__law_numbers.ok sc__law_numbers (fun vs H Q E h => ?_) (fun cdv A outer s H vs Q E hr h => ?_)
  · obtain ⟨_, _, _, _, rfl, _⟩ := h; rfl
  · obtain ⟨k, l, ns, b, rfl, h0, h1, hS, q⟩ := h
    refine ⟨_, (pss_cut (ps_set (i := 3) sc__law_numbers.nd rfl (Or.inl rfl) (pn_call c__law_number (hr.mono (by decide)) rfl T.mg__law_number T.kp__law_number (pa_cons (pn_call c__law_cell_at (hr.mono (by decide)) rfl T.mg__law_cell_at T.kp__law_cell_at (pa_cons (pv 1) (pa_cons pe_int pa_nil))) pa_nil)))
      (pss_cut (ps_set (i := 4) sc__law_numbers.nd rfl (Or.inl rfl) (pe_op op_add pe_int (pn_call c__law_number (hr.mono (by decide)) rfl T.mg__law_number T.kp__law_number (pa_cons (pn_call c__law_cell_at (hr.mono (by decide)) rfl T.mg__law_cell_at T.kp__law_cell_at (pa_cons (pv 1) (pa_cons pe_int pa_nil))) pa_nil))))
      (pss_cut (ps_set (i := 5) sc__law_numbers.nd rfl (Or.inl rfl) (pn_call c__law_number (hr.mono (by decide)) rfl T.mg__law_number T.kp__law_number (pa_cons (pn_call c__law_cell_at (hr.mono (by decide)) rfl T.mg__law_cell_at T.kp__law_cell_at (pa_cons (pv 1) (pa_cons pe_int pa_nil))) pa_nil)))
      (pss_cut (ps_set (i := 6) sc__law_numbers.nd rfl (Or.inl rfl) pe_non)
      (pss_cutM (ps_if (pt_cmpR (op_eqA hr.hu8) (pe_op op_modP (pn_call c__law_cell_at (hr.mono (by decide)) rfl T.mg__law_cell_at T.kp__law_cell_at (pa_cons (pv 1) (pa_cons pe_int pa_nil))) pe_int) pe_int (nomark _))
        (pss_one (ps_set (i := 6) sc__law_numbers.nd rfl (Or.inl rfl) (pe_op op_add pe_int (pn_call c__law_number (hr.mono (by decide)) rfl T.mg__law_number T.kp__law_number (pa_cons (pe_op op_fdivB (pn_call c__law_cell_at (hr.mono (by decide)) rfl T.mg__law_cell_at T.kp__law_cell_at (pa_cons (pv 1) (pa_cons pe_int pa_nil))) pe_int) pa_nil)))))
        pss_nil)
      (pss_cut (ps_if (PW.pt (pw_and (pt_cmpR (op_eqA hr.hu8) (pv 0) pe_int (nomark _)) (pw_and1 (pt_truth (pv 2) (fun _ => rfl)))))
        (pss_one (ps_ret (pe_lstD (pa_cons (pv 3) (pa_cons (pv 3) pa_nil)))))
        pss_nil)
      (pss_cut (ps_if (pt_cmpR (op_eqA hr.hu8) (pv 0) pe_int (nomark _))
        (pss_one (ps_ret (pe_lstD (pa_cons (pv 3) (pa_cons (pe_op op_add (pv 3) (pv 5)) pa_nil)))))
        pss_nil)
      (pss_cut (ps_if (pt_truth (pv 2) (fun _ => rfl))
        (pss_cut (ps_set (i := 5) sc__law_numbers.nd rfl (Or.inl rfl) pe_int)
        (pss_one (ps_set (i := 6) sc__law_numbers.nd rfl (Or.inl rfl) pe_non)))
        pss_nil)
      (pss_cut (ps_if (pt_cmpR (op_eqA hr.hu8) (pv 0) pe_int (nomark _))
        (pss_one (ps_ret (pe_lstD (pa_cons (pv 3) (pa_cons (pv 4) (pa_cons (pe_op op_modP (pv 5) (pv 4)) (pa_cons (pv 6) pa_nil)))))))
        pss_nil)
      (pss_cut (ps_if (pt_cmpR (op_eqA hr.hu8) (pv 0) pe_int (nomark _))
        (pss_one (ps_ret (pe_lstD (pa_cons (pv 3) (pa_cons (pv 4) (pa_cons (pv 5) (pa_cons (pv 6) pa_nil)))))))
        pss_nil)
      (pss_one (ps_ret (pe_lstD (pa_cons (pv 3) (pa_cons (pv 4) (pa_cons (pe_op op_add (pv 4) (pn_call c__law_number (hr.mono (by decide)) rfl T.mg__law_number T.kp__law_number (pa_cons (pn_call c__law_cell_at (hr.mono (by decide)) rfl T.mg__law_cell_at T.kp__law_cell_at (pa_cons (pv 1) (pa_cons pe_int pa_nil))) pa_nil))) (pa_cons (pv 5) (pa_cons (pv 6) pa_nil)))))))))))))))))), ?_⟩
    repeat' (walk_at "rd1")
    rename_i st est st0 st1 gp egp gp0 gp1 wd ewd wd0 wd1
    refine r_cutM (fun σ' H' => H = H' ∧ ∃ m, σ' = [some (.int k), some (.ref l), some (.bl b), some (.int st), some (.int (1 + gp)), some (.int wd), some m] ∧ BV m) ?_ ?_
    · repeat' (walk_at "rd1")
      · exact ⟨rfl, _, rfl, .inr ⟨_, rfl, by omega, by omega⟩⟩
      · exact ⟨rfl, _, rfl, .inl rfl⟩
    rintro σ' H' ⟨rfl, m, rfl, hm⟩
    have hk4 : k = 0 ∨ k = 1 ∨ k = 2 ∨ k = 3 := by omega
    cases b
    · rcases hm with rfl | ⟨i, rfl, hi1, hi2⟩
      · rcases hk4 with rfl | rfl | rfl | rfl
        · repeat' (walk_at "rd1")
          exact q _ _ (.once st (st + wd)) (by assumption) (by assumption) ⟨by omega, by omega, by omega⟩ rfl (fun e => by cases e) (by assumption)
        · repeat' (walk_at "rd1")
          exact q _ _ (.each st (1 + gp) _ .non) (by assumption) (by assumption) ⟨by omega, by omega, by omega, by omega, by omega, by omega, .inl rfl⟩ rfl (fun e => by cases e) (by assumption)
        · repeat' (walk_at "rd1")
          exact q _ _ (.behind st (1 + gp) wd .non) (by assumption) (by assumption) ⟨by omega, by omega, by omega, by omega, by omega, by omega, .inl rfl⟩ rfl (fun e => by cases e) (by assumption)
        · repeat' (walk_at "rd1")
          rename_i n9 e9 h90 h91 p9 H9 s9 f9 l9; exact q _ _ (.slow st (1 + gp) (1 + gp + n9) wd .non) (by assumption) (by assumption) ⟨by omega, by omega, by omega, by omega, by omega, by omega, by omega, .inl rfl⟩ rfl (fun e => by cases e) (by assumption)
      · rcases hk4 with rfl | rfl | rfl | rfl
        · repeat' (walk_at "rd1")
          exact q _ _ (.once st (st + wd)) (by assumption) (by assumption) ⟨by omega, by omega, by omega⟩ rfl (fun e => by cases e) (by assumption)
        · repeat' (walk_at "rd1")
          exact q _ _ (.each st (1 + gp) _ (.int i)) (by assumption) (by assumption) ⟨by omega, by omega, by omega, by omega, by omega, by omega, .inr ⟨i, rfl, hi1, hi2⟩⟩ rfl (fun e => by cases e) (by assumption)
        · repeat' (walk_at "rd1")
          exact q _ _ (.behind st (1 + gp) wd (.int i)) (by assumption) (by assumption) ⟨by omega, by omega, by omega, by omega, by omega, by omega, .inr ⟨i, rfl, hi1, hi2⟩⟩ rfl (fun e => by cases e) (by assumption)
        · repeat' (walk_at "rd1")
          rename_i n9 e9 h90 h91 p9 H9 s9 f9 l9; exact q _ _ (.slow st (1 + gp) (1 + gp + n9) wd (.int i)) (by assumption) (by assumption) ⟨by omega, by omega, by omega, by omega, by omega, by omega, by omega, .inr ⟨i, rfl, hi1, hi2⟩⟩ rfl (fun e => by cases e) (by assumption)
    · rcases hk4 with rfl | rfl | rfl | rfl
      · repeat' (walk_at "rd1")
        exact q _ _ (.once st st) (by assumption) (by assumption) ⟨by omega, by omega, by omega⟩ rfl (fun _ => rfl) (by assumption)
      · repeat' (walk_at "rd1")
        exact q _ _ (.each st (1 + gp) _ .non) (by assumption) (by assumption) ⟨by omega, by omega, by omega, by omega, by omega, by omega, .inl rfl⟩ rfl (fun _ => ⟨Int.zero_emod _, rfl⟩) (by assumption)
      · repeat' (walk_at "rd1")
        exact q _ _ (.behind st (1 + gp) 0 .non) (by assumption) (by assumption) ⟨by omega, by omega, by omega, by omega, by omega, by omega, .inl rfl⟩ rfl (fun _ => ⟨rfl, rfl⟩) (by assumption)
      · repeat' (walk_at "rd1")
        rename_i n9 e9 h90 h91 p9 H9 s9 f9 l9; exact q _ _ (.slow st (1 + gp) (1 + gp + n9) 0 .non) (by assumption) (by assumption) ⟨by omega, by omega, by omega, by omega, by omega, by omega, by omega, .inl rfl⟩ rfl (fun _ => ⟨rfl, rfl⟩) (by assumption)
theorem cal_numbers (T : Txt K mg a) : Cal P w K mg base 2 a.f__law_numbers ["_law_kind", "_law_script", "_law_bare_here"] [] (sp_numbers K) :=
  ⟨⟨_, _, ok_numbers T, T.F__law_numbers.binds fun _ _ _ _ _ _ => .all fun us hl => match us, hl with | [_, _, _], _ => rfl, .nil⟩⟩
def sp_made (a : Ad) : Sp := fun vs H Q _ => ∃ (k : Int) (v : V) (r : RU), vs = [.int k, v] ∧ kR r = k ∧ GoodR r ∧ Dv H v (.list (dsR r)) ∧ ∀ v' H', Same H H' → RIs a H' v' r → Q v' H'
theorem u_made {a : Ad} {H : Hp} {Q : VK} {E : XK} {k : Int} {v : V} {r : RU} (hk : kR r = k) (hg : GoodR r) (hd : Dv H v (.list (dsR r))) (q : ∀ v' H', Same H H' → RIs a H' v' r → Q v' H') : sp_made a [.int k, v] H Q E := ⟨k, v, r, rfl, hk, hg, hd, q⟩
theorem ok_made (T : Txt K mg a) : FnOk P w K mg base CX0 7 a.f__law_made a.fd__law_made ["_law_kind", "_law_some"] (sp_made a) := by
  have c_Once_2 := cal_Once_2 (P := P) (w := w) (base := base) T
  have c_Each_4 := cal_Each_4 (P := P) (w := w) (base := base) T
  have c_Behind_4 := cal_Behind_4 (P := P) (w := w) (base := base) T
  have c_Slowing_5 := cal_Slowing_5 (P := P) (w := w) (base := base) T
  refine T.F__law_made.ok sc__law_made (fun vs H Q E h => ?_) (fun cdv A outer s H vs Q E hr h => ?_)
  · obtain ⟨_, _, _, rfl, _⟩ := h; rfl
  · obtain ⟨k, v, r, rfl, hk, hg, hd, q⟩ := h
    refine ⟨_, (pss_cut (ps_if (pt_cmpR (op_eqA hr.hu8) (pv 0) pe_int (nomark _))
        (pss_one (ps_ret (pn_make T.M_Once c_Once_2 (hr.mono (by decide)) rfl T.mg_Once (pa_cons (pe_ix ix_K (pv 1) pe_int (fun _ _ => rfl)) (pa_cons (pe_ix ix_K (pv 1) pe_int (fun _ _ => rfl)) pa_nil)))))
        pss_nil)
      (pss_cut (ps_if (pt_cmpR (op_eqA hr.hu8) (pv 0) pe_int (nomark _))
        (pss_one (ps_ret (pn_make T.M_Each c_Each_4 (hr.mono (by decide)) rfl T.mg_Each (pa_cons (pe_ix ix_K (pv 1) pe_int (fun _ _ => rfl)) (pa_cons (pe_ix ix_K (pv 1) pe_int (fun _ _ => rfl)) (pa_cons (pe_ix ix_K (pv 1) pe_int (fun _ _ => rfl)) (pa_cons (pe_ix ix_K (pv 1) pe_int (fun _ _ => rfl)) pa_nil)))))))
        pss_nil)
      (pss_cut (ps_if (pt_cmpR (op_eqA hr.hu8) (pv 0) pe_int (nomark _))
        (pss_one (ps_ret (pn_make T.M_Behind c_Behind_4 (hr.mono (by decide)) rfl T.mg_Behind (pa_cons (pe_ix ix_K (pv 1) pe_int (fun _ _ => rfl)) (pa_cons (pe_ix ix_K (pv 1) pe_int (fun _ _ => rfl)) (pa_cons (pe_ix ix_K (pv 1) pe_int (fun _ _ => rfl)) (pa_cons (pe_ix ix_K (pv 1) pe_int (fun _ _ => rfl)) pa_nil)))))))
        pss_nil)
      (pss_one (ps_ret (pn_make T.M_Slowing c_Slowing_5 (hr.mono (by decide)) rfl T.mg_Slowing (pa_cons (pe_ix ix_K (pv 1) pe_int (fun _ _ => rfl)) (pa_cons (pe_ix ix_K (pv 1) pe_int (fun _ _ => rfl)) (pa_cons (pe_ix ix_K (pv 1) pe_int (fun _ _ => rfl)) (pa_cons (pe_ix ix_K (pv 1) pe_int (fun _ _ => rfl)) (pa_cons (pe_ix ix_K (pv 1) pe_int (fun _ _ => rfl)) pa_nil))))))))))), ?_⟩
    cases r with
    | once f l =>
      obtain ⟨g0, g1, g2⟩ := hg
      subst hk
      simp only [dsR, kR] at hd ⊢
      repeat' (walk_at "rd1")
      · exact ⟨_, by omega, .inr ⟨_, rfl, by omega⟩⟩
      · rename_i hi
        exact q _ _ (by walk_at "same") hi
    | each st sp wd m =>
      obtain ⟨g0, g1, g2, g3, g4, g5, hm⟩ := hg
      subst hk
      rcases hm with rfl | ⟨i, rfl, i1, i2⟩
      · simp only [dsR, kR, mD] at hd ⊢
        repeat' (walk_at "rd1")
        · exact ⟨_, _, _, _, rfl, by omega, by omega, by omega, by omega, .inl rfl⟩
        · rename_i hi
          exact q _ _ (by walk_at "same") ⟨hi, .inl rfl, by omega, by omega, by omega, by omega, by omega, by omega⟩
      · simp only [dsR, kR, mD] at hd ⊢
        repeat' (walk_at "rd1")
        · exact ⟨_, _, _, _, rfl, by omega, by omega, by omega, by omega, .inr ⟨i, rfl, i1⟩⟩
        · rename_i hi
          exact q _ _ (by walk_at "same") ⟨hi, .inr ⟨i, rfl, i1⟩, by omega, by omega, by omega, by omega, by omega, by omega⟩
    | behind st gp wd m =>
      obtain ⟨g0, g1, g2, g3, g4, g5, hm⟩ := hg
      subst hk
      rcases hm with rfl | ⟨i, rfl, i1, i2⟩
      · simp only [dsR, kR, mD] at hd ⊢
        repeat' (walk_at "rd1")
        · exact ⟨_, _, _, _, rfl, by omega, by omega, by omega, .inl rfl⟩
        · rename_i hi
          exact q _ _ (by walk_at "same") ⟨hi, .inl rfl, by omega, by omega, by omega, by omega⟩
      · simp only [dsR, kR, mD] at hd ⊢
        repeat' (walk_at "rd1")
        · exact ⟨_, _, _, _, rfl, by omega, by omega, by omega, .inr ⟨i, rfl, i1⟩⟩
        · rename_i hi
          exact q _ _ (by walk_at "same") ⟨hi, .inr ⟨i, rfl, i1⟩, by omega, by omega, by omega, by omega⟩
    | slow st gp mo wd m =>
      obtain ⟨g0, g1, g2, g3, g4, g5, g6, hm⟩ := hg
      subst hk
      rcases hm with rfl | ⟨i, rfl, i1, i2⟩
      · simp only [dsR, kR, mD] at hd ⊢
        repeat' (walk_at "rd1")
        · exact ⟨_, _, _, _, _, rfl, by omega, by omega, by omega, by omega, .inl rfl⟩
        · rename_i hi
          exact q _ _ (by walk_at "same") ⟨hi, .inl rfl, by omega, by omega, by omega, by omega, by omega⟩
      · simp only [dsR, kR, mD] at hd ⊢
        repeat' (walk_at "rd1")
        · exact ⟨_, _, _, _, _, rfl, by omega, by omega, by omega, by omega, .inr ⟨i, rfl, i1⟩⟩
        · rename_i hi
          exact q _ _ (by walk_at "same") ⟨hi, .inr ⟨i, rfl, i1⟩, by omega, by omega, by omega, by omega, by omega⟩
theorem cal_made (T : Txt K mg a) : Cal P w K mg base 7 a.f__law_made ["_law_kind", "_law_some"] [] (sp_made a) :=
  ⟨⟨_, _, ok_made T, T.F__law_made.binds fun _ _ _ _ _ _ => .all fun us hl => match us, hl with | [_, _], _ => rfl, .nil⟩⟩
def sp_bare (a : Ad) : Sp := fun vs H Q _ => ∃ (k : Int) (v : V) (r : RU), vs = [.int k, v] ∧ kR r = k ∧ GoodR r ∧ BareR r ∧ Dv H v (.list (dsR r)) ∧ ∀ v' H', Same H H' → RIs a H' v' r → Q v' H'
theorem u_bare {a : Ad} {H : Hp} {Q : VK} {E : XK} {k : Int} {v : V} {r : RU} (hk : kR r = k) (hg : GoodR r) (hb : BareR r) (hd : Dv H v (.list (dsR r))) (q : ∀ v' H', Same H H' → RIs a H' v' r → Q v' H') : sp_bare a [.int k, v] H Q E := ⟨k, v, r, rfl, hk, hg, hb, hd, q⟩
theorem ok_bare (T : Txt K mg a) : FnOk P w K mg base CX0 7 a.f__law_bare a.fd__law_bare ["_law_kind", "_law_some"] (sp_bare a) := by
  have c_Once_1 := cal_Once_1 (P := P) (w := w) (base := base) T
  have c_Each_2 := cal_Each_2 (P := P) (w := w) (base := base) T
  have c_Behind_2 := cal_Behind_2 (P := P) (w := w) (base := base) T
  have c_Slowing_3 := cal_Slowing_3 (P := P) (w := w) (base := base) T
  refine T.F__law_bare.ok sc__law_bare (fun vs H Q E h => ?_) (fun cdv A outer s H vs Q E hr h => ?_)
  · obtain ⟨_, _, _, rfl, _⟩ := h; rfl
  · obtain ⟨k, v, r, rfl, hk, hg, hb, hd, q⟩ := h
    refine ⟨_, (pss_cut (ps_if (pt_cmpR (op_eqA hr.hu8) (pv 0) pe_int (nomark _))
        (pss_one (ps_ret (pn_make T.M_Once c_Once_1 (hr.mono (by decide)) rfl T.mg_Once (pa_cons (pe_ix ix_K (pv 1) pe_int (fun _ _ => rfl)) pa_nil))))
        pss_nil)
      (pss_cut (ps_if (pt_cmpR (op_eqA hr.hu8) (pv 0) pe_int (nomark _))
        (pss_one (ps_ret (pn_make T.M_Each c_Each_2 (hr.mono (by decide)) rfl T.mg_Each (pa_cons (pe_ix ix_K (pv 1) pe_int (fun _ _ => rfl)) (pa_cons (pe_ix ix_K (pv 1) pe_int (fun _ _ => rfl)) pa_nil)))))
        pss_nil)
      (pss_cut (ps_if (pt_cmpR (op_eqA hr.hu8) (pv 0) pe_int (nomark _))
        (pss_one (ps_ret (pn_make T.M_Behind c_Behind_2 (hr.mono (by decide)) rfl T.mg_Behind (pa_cons (pe_ix ix_K (pv 1) pe_int (fun _ _ => rfl)) (pa_cons (pe_ix ix_K (pv 1) pe_int (fun _ _ => rfl)) pa_nil)))))
        pss_nil)
      (pss_one (ps_ret (pn_make T.M_Slowing c_Slowing_3 (hr.mono (by decide)) rfl T.mg_Slowing (pa_cons (pe_ix ix_K (pv 1) pe_int (fun _ _ => rfl)) (pa_cons (pe_ix ix_K (pv 1) pe_int (fun _ _ => rfl)) (pa_cons (pe_ix ix_K (pv 1) pe_int (fun _ _ => rfl)) pa_nil))))))))), ?_⟩
    cases r with
    | once f l =>
      obtain ⟨g0, g1, g2⟩ := hg
      have hb : f = l := hb
      subst hk hb
      simp only [dsR, kR] at hd ⊢
      repeat' (walk_at "rd1")
      · exact ⟨_, by omega, .inl rfl⟩
      · rename_i hi
        exact q _ _ (by walk_at "same") hi
    | each st sp wd m =>
      obtain ⟨g0, g1, g2, g3, g4, g5, hm⟩ := hg
      obtain ⟨rfl, rfl⟩ := hb
      subst hk
      simp only [dsR, kR, mD] at hd ⊢
      repeat' (walk_at "rd1")
      · exact ⟨_, _, _, _, rfl, by omega, by omega, by omega, by omega, .inl rfl⟩
      · rename_i hi
        exact q _ _ (by walk_at "same") ⟨hi, .inl rfl, by omega, by omega, by omega, by omega, by omega, by omega⟩
    | behind st gp wd m =>
      obtain ⟨g0, g1, g2, g3, g4, g5, hm⟩ := hg
      obtain ⟨rfl, rfl⟩ := hb
      subst hk
      simp only [dsR, kR, mD] at hd ⊢
      repeat' (walk_at "rd1")
      · exact ⟨_, _, _, _, rfl, by omega, by omega, by omega, .inl rfl⟩
      · rename_i hi
        exact q _ _ (by walk_at "same") ⟨hi, .inl rfl, by omega, by omega, by omega, by omega⟩
    | slow st gp mo wd m =>
      obtain ⟨g0, g1, g2, g3, g4, g5, g6, hm⟩ := hg
      obtain ⟨rfl, rfl⟩ := hb
      subst hk
      simp only [dsR, kR, mD] at hd ⊢
      repeat' (walk_at "rd1")
      · exact ⟨_, _, _, _, _, rfl, by omega, by omega, by omega, by omega, .inl rfl⟩
      · rename_i hi
        exact q _ _ (by walk_at "same") ⟨hi, .inl rfl, by omega, by omega, by omega, by omega, by omega⟩
theorem cal_bare (T : Txt K mg a) : Cal P w K mg base 7 a.f__law_bare ["_law_kind", "_law_some"] [] (sp_bare a) :=
  ⟨⟨_, _, ok_bare T, T.F__law_bare.binds fun _ _ _ _ _ _ => .all fun us hl => match us, hl with | [_, _], _ => rfl, .nil⟩⟩
structure WO where
  (f l : Int)
  (h0 : 0 ≤ f) (h1 : f < 10 ^ 64) (h2 : 0 ≤ l) (h3 : l < 10 ^ 64)
structure W3 where
  (st sp wd : Int) (m : V) (d : PyData)
  (h0 : 0 ≤ st) (h1 : st < 10 ^ 64) (h2 : 0 ≤ sp) (h3 : sp < 10 ^ 64) (h4 : 0 ≤ wd) (h5 : wd < 10 ^ 64) (hm : MDat m d)
structure W4 where
  (st gp mo wd : Int) (m : V) (d : PyData)
  (h0 : 0 ≤ st) (h1 : st < 10 ^ 64) (h2 : 0 ≤ gp) (h3 : gp < 10 ^ 64) (h4 : 0 ≤ mo) (h5 : mo < 10 ^ 64) (h6 : 0 ≤ wd) (h7 : wd < 10 ^ 64) (hm : MDat m d)
def sp_wO (C : Addr) : Sp := fun vs H Q E => ∃ i : WO, sp_words C "once" [("many", .int 1), ("first", .int i.f), ("last", .int i.l)] [.int i.f, .int i.l] vs H Q E
def sp_wE (C : Addr) : Sp := fun vs H Q E => ∃ i : W3, sp_words C "each" [("many", i.m), ("start", .int i.st), ("step", .int i.sp), ("wide", .int i.wd)] [.int i.st, .int i.sp, .int i.wd, i.d] vs H Q E
def sp_wB (C : Addr) : Sp := fun vs H Q E => ∃ i : W3, sp_words C "behind" [("many", i.m), ("start", .int i.st), ("gap", .int i.sp), ("wide", .int i.wd)] [.int i.st, .int i.sp, .int i.wd, i.d] vs H Q E
def sp_wS (C : Addr) : Sp := fun vs H Q E => ∃ i : W4, sp_words C "slowing" [("many", i.m), ("start", .int i.st), ("gap", .int i.gp), ("wide", .int i.wd), ("most", .int i.mo)] [.int i.st, .int i.gp, .int i.mo, .int i.wd, i.d] vs H Q E
theorem cal_wO (T : Txt K mg a) : Cal P w K mg base 4 a.f_Once_words ["self"] [] (sp_wO a.C_Once) :=
  ⟨⟨_, _, FnOk.ex fun i : WO => ok_words_O T i.h0 i.h1 i.h2 i.h3, T.F_Once_words.binds fun _ _ _ _ _ _ => .all fun us hl => match us, hl with | [_], _ => rfl, .nil⟩⟩
theorem cal_wE (T : Txt K mg a) : Cal P w K mg base 4 a.f_Each_words ["self"] [] (sp_wE a.C_Each) :=
  ⟨⟨_, _, FnOk.ex fun i : W3 => ok_words_E T i.h0 i.h1 i.h2 i.h3 i.h4 i.h5 i.hm, T.F_Each_words.binds fun _ _ _ _ _ _ => .all fun us hl => match us, hl with | [_], _ => rfl, .nil⟩⟩
theorem cal_wB (T : Txt K mg a) : Cal P w K mg base 4 a.f_Behind_words ["self"] [] (sp_wB a.C_Behind) :=
  ⟨⟨_, _, FnOk.ex fun i : W3 => ok_words_B T i.h0 i.h1 i.h2 i.h3 i.h4 i.h5 i.hm, T.F_Behind_words.binds fun _ _ _ _ _ _ => .all fun us hl => match us, hl with | [_], _ => rfl, .nil⟩⟩
theorem cal_wS (T : Txt K mg a) : Cal P w K mg base 4 a.f_Slowing_words ["self"] [] (sp_wS a.C_Slowing) :=
  ⟨⟨_, _, FnOk.ex fun i : W4 => ok_words_S T i.h0 i.h1 i.h2 i.h3 i.h4 i.h5 i.h6 i.h7 i.hm, T.F_Slowing_words.binds fun _ _ _ _ _ _ => .all fun us hl => match us, hl with | [_], _ => rfl, .nil⟩⟩
theorem u_wO {C : Addr} {H : Hp} {Q : VK} {E : XK} {v : V} {f l : Int} (hp : Ins H v C [("many", .int 1), ("first", .int f), ("last", .int l)]) (h : 0 ≤ f ∧ f < 10 ^ 64 ∧ 0 ≤ l ∧ l < 10 ^ 64) (q : ∀ H', Same H H' → Q (.str (rowS "once" [.int f, .int l])) H') : sp_wO C [v] H Q E := ⟨⟨f, l, h.1, h.2.1, h.2.2.1, h.2.2.2⟩, u_words hp q⟩
theorem u_wE {C : Addr} {H : Hp} {Q : VK} {E : XK} {v : V} {st sp wd : Int} {m : V} (hp : Ins H v C [("many", m), ("start", .int st), ("step", .int sp), ("wide", .int wd)]) (hm : MDat m (mD m)) (h : 0 ≤ st ∧ st < 10 ^ 64 ∧ 0 ≤ sp ∧ sp < 10 ^ 64 ∧ 0 ≤ wd ∧ wd < 10 ^ 64) (q : ∀ H', Same H H' → Q (.str (rowS "each" [.int st, .int sp, .int wd, mD m])) H') : sp_wE C [v] H Q E := ⟨⟨st, sp, wd, m, _, h.1, h.2.1, h.2.2.1, h.2.2.2.1, h.2.2.2.2.1, h.2.2.2.2.2, hm⟩, u_words hp q⟩
theorem u_wB {C : Addr} {H : Hp} {Q : VK} {E : XK} {v : V} {st sp wd : Int} {m : V} (hp : Ins H v C [("many", m), ("start", .int st), ("gap", .int sp), ("wide", .int wd)]) (hm : MDat m (mD m)) (h : 0 ≤ st ∧ st < 10 ^ 64 ∧ 0 ≤ sp ∧ sp < 10 ^ 64 ∧ 0 ≤ wd ∧ wd < 10 ^ 64) (q : ∀ H', Same H H' → Q (.str (rowS "behind" [.int st, .int sp, .int wd, mD m])) H') : sp_wB C [v] H Q E := ⟨⟨st, sp, wd, m, _, h.1, h.2.1, h.2.2.1, h.2.2.2.1, h.2.2.2.2.1, h.2.2.2.2.2, hm⟩, u_words hp q⟩
theorem u_wS {C : Addr} {H : Hp} {Q : VK} {E : XK} {v : V} {st gp mo wd : Int} {m : V} (hp : Ins H v C [("many", m), ("start", .int st), ("gap", .int gp), ("wide", .int wd), ("most", .int mo)]) (hm : MDat m (mD m)) (h : 0 ≤ st ∧ st < 10 ^ 64 ∧ 0 ≤ gp ∧ gp < 10 ^ 64 ∧ 0 ≤ mo ∧ mo < 10 ^ 64 ∧ 0 ≤ wd ∧ wd < 10 ^ 64) (q : ∀ H', Same H H' → Q (.str (rowS "slowing" [.int st, .int gp, .int mo, .int wd, mD m])) H') : sp_wS C [v] H Q E := ⟨⟨st, gp, mo, wd, m, _, h.1, h.2.1, h.2.2.1, h.2.2.2.1, h.2.2.2.2.1, h.2.2.2.2.2.1, h.2.2.2.2.2.2.1, h.2.2.2.2.2.2.2, hm⟩, u_words hp q⟩
local macro_rules | `(tactic| walk_at "use") => `(tactic| first
  | ((with_reducible refine' u_wO ?e0 ?e1 (fun _ _ => ?_)); (case e0 => walk_at "ins"); (case e1 => assumption))
  | ((with_reducible refine' u_wE ?e0 ?e1 ?e2 (fun _ _ => ?_)); (case e0 => walk_at "ins"); (case e1 => assumption); (case e2 => assumption))
  | ((with_reducible refine' u_wB ?e0 ?e1 ?e2 (fun _ _ => ?_)); (case e0 => walk_at "ins"); (case e1 => assumption); (case e2 => assumption))
  | ((with_reducible refine' u_wS ?e0 ?e1 ?e2 (fun _ _ => ?_)); (case e0 => walk_at "ins"); (case e1 => assumption); (case e2 => assumption))
  | fail)
def rowR (r : RU) : Str := rowS (kdS (kR r)) (dsR r)
def sp_says (a : Ad) : Sp := fun vs H Q _ => ∃ v r, vs = [v, .str (rowR r)] ∧ RIs a H v r ∧ GoodR r ∧ ∀ H', Same H H' → Q (.bl true) H'
theorem u_says {a : Ad} {H : Hp} {Q : VK} {E : XK} {v : V} {s : Str} {r : RU} (hp : RIs a H v r) (hg : GoodR r) (hs : s = rowR r) (q : ∀ H', Same H H' → Q (.bl true) H') : sp_says a [v, .str s] H Q E := by subst hs; exact ⟨v, r, rfl, hp, hg, q⟩
theorem ok_says (T : Txt K mg a) : FnOk P w K mg base CX0 5 a.f__law_says a.fd__law_says ["_law_rule", "_law_due_here"] (sp_says a) := by
  have l1 := T.cl_Once; have l2 := T.cl_Each; have l3 := T.cl_Behind; have l4 := T.cl_Slowing
  have c_Once_words := cal_wO (P := P) (w := w) (base := base) T
  have c_Each_words := cal_wE (P := P) (w := w) (base := base) T
  have c_Behind_words := cal_wB (P := P) (w := w) (base := base) T
  have c_Slowing_words := cal_wS (P := P) (w := w) (base := base) T
  refine T.F__law_says.ok sc__law_says (fun vs H Q E h => ?_) (fun cdv A outer s H vs Q E hr h => ?_)
  · obtain ⟨_, _, rfl, _⟩ := h; rfl
  · obtain ⟨v, r, rfl, hR, hg, q⟩ := h
    refine ⟨_, (pss_cutM (ps_set (i := 2) sc__law_says.nd rfl (Or.inl rfl) (pe_or2 (pn_meth0 (pv 0) T.cl_Once T.m_Once_words c_Once_words (hr.mono (by decide))) (pe_or2 (pn_meth0 (pv 0) T.cl_Each T.m_Each_words c_Each_words (hr.mono (by decide))) (pe_or2 (pn_meth0 (pv 0) T.cl_Behind T.m_Behind_words c_Behind_words (hr.mono (by decide))) (pn_meth0 (pv 0) T.cl_Slowing T.m_Slowing_words c_Slowing_words (hr.mono (by decide)))))))
      (pss_one (ps_ret (pe_and (pe_callB call_isi rfl T.no_isinstance PyProof.Rows.boot_isinstance (pa_cons (pv 2) (pa_cons (pe_bltn (v := .ty "str") rfl T.no_str PyProof.Rows.boot_str rfl) pa_nil))) (pe_one (pe_cmpR (op_eqA hr.hu8) (pv 2) (pv 1) (nomark _))))))), ?_⟩
    refine r_cutM (fun σ' H' => Same H H' ∧ σ' = [some v, some (.str (rowR r)), some (.str (rowR r))]) ?_ ?_
    · cases r with
      | once f l =>
        obtain ⟨g0, g1, g2⟩ := hg
        have hp : Ins H v a.C_Once [("many", .int 1), ("first", .int f), ("last", .int l)] := hR
        have hh : 0 ≤ f ∧ f < 10 ^ 64 ∧ 0 ≤ l ∧ l < 10 ^ 64 := by omega
        repeat' (walk_at "rd1")
        exact ⟨by walk_at "same", rfl⟩
      | each st sp wd m =>
        obtain ⟨g0, g1, g2, g3, g4, g5, hm⟩ := hg
        have hp := hR.1
        have hmd := hm.md
        have hh : 0 ≤ st ∧ st < 10 ^ 64 ∧ 0 ≤ sp ∧ sp < 10 ^ 64 ∧ 0 ≤ wd ∧ wd < 10 ^ 64 := by omega
        repeat' (walk_at "rd1")
        exact ⟨by walk_at "same", rfl⟩
      | behind st gp wd m =>
        obtain ⟨g0, g1, g2, g3, g4, g5, hm⟩ := hg
        have hp := hR.1
        have hmd := hm.md
        have hh : 0 ≤ st ∧ st < 10 ^ 64 ∧ 0 ≤ gp ∧ gp < 10 ^ 64 ∧ 0 ≤ wd ∧ wd < 10 ^ 64 := by omega
        repeat' (walk_at "rd1")
        exact ⟨by walk_at "same", rfl⟩
      | slow st gp mo wd m =>
        obtain ⟨g0, g1, g2, g3, g4, g5, g6, hm⟩ := hg
        have hp := hR.1
        have hmd := hm.md
        have hh : 0 ≤ st ∧ st < 10 ^ 64 ∧ 0 ≤ gp ∧ gp < 10 ^ 64 ∧ 0 ≤ mo ∧ mo < 10 ^ 64 ∧ 0 ≤ wd ∧ wd < 10 ^ 64 := by omega
        repeat' (walk_at "rd1")
        exact ⟨by walk_at "same", rfl⟩
    rintro σ' H' ⟨sm, rfl⟩
    repeat' (walk_at "rd1")
    all_goals first | exact q _ sm | (have e : decide (V.str (rowR r) = V.str (rowR r)) = true := decide_eq_true rfl; show Q (.bl (decide (V.str (rowR r) = V.str (rowR r)))) _; rw [e]; exact q _ sm)
theorem cal_says (T : Txt K mg a) : Cal P w K mg base 5 a.f__law_says ["_law_rule", "_law_due_here"] [] (sp_says a) :=
  ⟨⟨_, _, ok_says T, T.F__law_says.binds fun _ _ _ _ _ _ => .all fun us hl => match us, hl with | [_, _], _ => rfl, .nil⟩⟩
local macro_rules | `(tactic| walk_at "use") => `(tactic| first
  | ((with_reducible refine' u_numbers ?e0 ?e1 ?e2 (fun _ _ _ _ _ _ _ _ _ => ?_)); (case e0 => omega); (case e1 => omega); (case e2 => walk_at "sql"))
  | ((with_reducible refine' u_made ?e0 ?e1 ?e2 (fun _ _ _ _ => ?_)); (case e2 => walk_at "dat"); (case e0 => assumption); (case e1 => assumption))
  | ((with_reducible refine' u_bare ?e0 ?e1 ?e2 ?e3 (fun _ _ _ _ => ?_)); (case e3 => walk_at "dat"); (case e0 => assumption); (case e1 => assumption); (case e2 => assumption))
  | ((with_reducible refine' u_due ?e0 ?e1 ?e2 ?e3 ?e4 (fun _ _ => ?_)); (case e0 => assumption); (case e1 => assumption); (case e2 => walk_at "dat"); (case e3 => exact GoodR.len _); (case e4 => exact GoodR.num (by assumption)))
  | ((with_reducible refine' u_says ?e0 ?e1 ?e2 (fun _ _ => ?_)); (case e0 => walk_at "ris"); (case e1 => assumption); (case e2 => first | assumption | rfl))
  | fail)
theorem dvs_set {H : Hp} {y : V} {d : PyData} (hy : Dv H y d) : ∀ {xs : List V} {ds : List PyData} (j : Nat), Dvs H xs ds → Dvs H (xs.set j y) (ds.set j d)
  | [], [], _, _ => .nil
  | _ :: _, _ :: _, 0, .cons _ t => .cons hy t
  | _ :: _, _ :: _, j + 1, .cons h t => .cons h (dvs_set hy j t)
theorem immAll_set {d : PyData} (hd : Imm d = true) {ds : List PyData} (j : Nat) (h : ImmAll ds = true) : ImmAll (ds.set j d) = true := by
  rw [immAll_iff] at h ⊢
  intro x hx
  rcases List.mem_or_eq_of_mem_set hx with h1 | rfl
  · exact h x h1
  · exact hd
theorem r_asgS {D : Ends} {σ : St} {H : Hp} {to ti te : TE} {t : TSet} (h : te σ H fun v H1 => to σ H1 fun o H2 => ti σ H2 fun i H3 => t o i v H3 fun H4 => D.nx σ H4) : tAsg te (gSub to ti t) D σ H := h
theorem r_setL {H : Hp} {p : Addr} {ds : List PyData} {j : Nat} {k : Int} {y : V} {d : PyData} {R : Hp → Prop} (hp : LAt H p ds) (hk : ixN ds.length k = some j) (hy : Dv H y d) (hi : Imm d = true) (h : ∀ H2, Mv [p] H H2 → LAt H2 p (ds.set j d) → R H2) : rSetL (.ref p) (.int k) y H R := by
  obtain ⟨xs, e, dv, im⟩ := hp
  have m : Mv [p] H (upd H p (.lst (xs.set j y))) := .of_upd e (by intro _ z; cases z)
  exact ⟨p, xs, k, j, rfl, rfl, e, by rw [dv.length]; exact hk, h _ m ⟨_, upd_same, m.dats (immAll_set hi j im) (dvs_set hy j dv), immAll_set hi j im⟩⟩
local macro_rules | `(tactic| walk_at "rd1") => `(tactic| first
  | with_reducible refine r_asgS ?_
  | ((with_reducible refine' r_setL ?e1 ?e2 ?e3 ?e4 (fun _ _ _ => ?_)); (case e1 => walk_at "lat"); (case e2 => exact rfl); (case e3 => walk_at "dat"); (case e4 => exact rfl))
  | fail)
theorem ok_law (T : Txt K mg a) : FnOk P w K mg base CX0 8 a.f_law a.fd_law ["_law_script"] (sp_law K) := by
  have l1 := T.cl_Once; have l2 := T.cl_Each; have l3 := T.cl_Behind; have l4 := T.cl_Slowing
  have c__law_cell_at := cal_law_cell_at (P := P) (w := w) (base := base) T
  have c__law_numbers := cal_numbers (P := P) (w := w) (base := base) T
  have c__law_made := cal_made (P := P) (w := w) (base := base) T
  have c__law_bare := cal_bare (P := P) (w := w) (base := base) T
  have c__law_due := cal_due (P := P) (w := w) (base := base) T
  have c__law_says := cal_says (P := P) (w := w) (base := base) T
  have c_Once_follow := cal_follow_O (P := P) (w := w) (base := base) T
  have c_Each_follow := cal_follow_E (P := P) (w := w) (base := base) T
  have c_Behind_follow := cal_follow_BX (P := P) (w := w) (base := base) T
  have c_Slowing_follow := cal_follow_SX (P := P) (w := w) (base := base) T
  have c_Once_let_by := cal_letby_O (P := P) (w := w) (base := base) T
  have c_Each_let_by := cal_letby_E (P := P) (w := w) (base := base) T
  have c_Behind_let_by := cal_letby_BX (P := P) (w := w) (base := base) T
  have c_Slowing_let_by := cal_letby_SX (P := P) (w := w) (base := base) T
  refine T.F_law.ok sc_law (fun vs H Q E h => ?_) (fun cdv A outer s H vs Q E hr h => ?_)
  · obtain ⟨_, _, rfl, _⟩ := h; rfl
  · obtain ⟨l, ns, rfl, hS, hl, q⟩ := h
    refine ⟨_, (pss_cut (ps_set (i := 1) sc_law.nd rfl (Or.inl rfl) (pe_op op_modP (pn_call c__law_cell_at (hr.mono (by decide)) rfl T.mg__law_cell_at T.kp__law_cell_at (pa_cons (pv 0) (pa_cons pe_int pa_nil))) pe_int))
      (pss_cut (ps_set (i := 2) sc_law.nd rfl (Or.inl rfl) (pe_cmpR (op_eqA hr.hu8) (pe_op op_modP (pn_call c__law_cell_at (hr.mono (by decide)) rfl T.mg__law_cell_at T.kp__law_cell_at (pa_cons (pv 0) (pa_cons pe_int pa_nil))) pe_int) pe_int (nomark _)))
      (pss_cut (ps_set (i := 3) sc_law.nd rfl (Or.inl rfl) (pn_call c__law_numbers (hr.mono (by decide)) rfl T.mg__law_numbers T.kp__law_numbers (pa_cons (pv 1) (pa_cons (pv 0) (pa_cons (pv 2) pa_nil)))))
      (pss_cutM (ps_set (i := 4) sc_law.nd rfl (Or.inl rfl) (pe_op op_cat (pe_lstD (pa_cons (pe_op op_add (pe_ix ix_K (pv 3) pe_int (fun _ _ => rfl)) pe_int) (pa_cons (pe_op op_add (pe_ix ix_K (pv 3) pe_int (fun _ _ => rfl)) pe_int) pa_nil))) (pe_slice sl_list (pv 3) (po_some pe_int) po_none)))
      (pss_cutM (ps_if (pt_cmpR (op_eqA hr.hu8) (pv 1) pe_int (nomark _))
        (pss_one (ps_asg (pe_op op_add (pe_ix ix_K (pv 4) pe_int (fun _ _ => rfl)) pe_int) (pg_sub (pv 4) pe_int set_list)))
        pss_nil)
      (pss_cut (ps_set (i := 5) sc_law.nd rfl (Or.inl rfl) (pn_call c__law_made (hr.mono (by decide)) rfl T.mg__law_made T.kp__law_made (pa_cons (pv 1) (pa_cons (pv 3) pa_nil))))
      (pss_cutM (ps_if (pt_truth (pv 2) (fun _ => rfl))
        (pss_one (ps_set (i := 5) sc_law.nd rfl (Or.inl rfl) (pn_call c__law_bare (hr.mono (by decide)) rfl T.mg__law_bare T.kp__law_bare (pa_cons (pv 1) (pa_cons (pv 3) pa_nil)))))
        pss_nil)
      (pss_cut (ps_set (i := 6) sc_law.nd rfl (Or.inl rfl) (pn_call c__law_made (hr.mono (by decide)) rfl T.mg__law_made T.kp__law_made (pa_cons (pv 1) (pa_cons (pv 4) pa_nil))))
      (pss_cut (ps_for PassesOwn.never rfl (pi_range1 rfl T.no_range (pa_cons pe_int pa_nil)) (pg_name (i := 7) sc_law.nd rfl (Or.inl rfl))
        (pss_cut (ps_if (PW.pt (pw_or (pt_not (pt_truth (pn_call c__law_says (hr.mono (by decide)) rfl T.mg__law_says T.kp__law_says (pa_cons (pv 5) (pa_cons (pn_call c__law_due (hr.mono (by decide)) rfl T.mg__law_due T.kp__law_due (pa_cons (pv 1) (pa_cons (pv 3) pa_nil))) pa_nil))) (fun _ => rfl))) (pw_or1 (pt_not (pt_truth (pn_call c__law_says (hr.mono (by decide)) rfl T.mg__law_says T.kp__law_says (pa_cons (pv 6) (pa_cons (pn_call c__law_due (hr.mono (by decide)) rfl T.mg__law_due T.kp__law_due (pa_cons (pv 1) (pa_cons (pv 4) pa_nil))) pa_nil))) (fun _ => rfl))))))
          (pss_one (ps_ret pe_bl))
          pss_nil)
        (pss_cutM (ps_expr (pe_or2 (pn_meth (pv 5) T.cl_Once T.m_Once_follow c_Once_follow (hr.mono (by decide)) (pa_cons pe_int (pa_cons (pe_ix ix_K (pv 3) pe_int (fun _ _ => rfl)) pa_nil))) (pe_or2 (pn_meth (pv 5) T.cl_Each T.m_Each_follow c_Each_follow (hr.mono (by decide)) (pa_cons pe_int (pa_cons (pe_ix ix_K (pv 3) pe_int (fun _ _ => rfl)) pa_nil))) (pe_or2 (pn_meth (pv 5) T.cl_Behind T.m_Behind_follow c_Behind_follow (hr.mono (by decide)) (pa_cons pe_int (pa_cons (pe_ix ix_K (pv 3) pe_int (fun _ _ => rfl)) pa_nil))) (pn_meth (pv 5) T.cl_Slowing T.m_Slowing_follow c_Slowing_follow (hr.mono (by decide)) (pa_cons pe_int (pa_cons (pe_ix ix_K (pv 3) pe_int (fun _ _ => rfl)) pa_nil)))))))
        (pss_one (ps_expr (pe_or2 (pn_meth (pv 5) T.cl_Once T.m_Once_let_by c_Once_let_by (hr.mono (by decide)) (pa_cons pe_int (pa_cons (pe_ix ix_K (pv 3) pe_int (fun _ _ => rfl)) (pa_cons (pe_op op_add (pe_ix ix_K (pv 3) pe_int (fun _ _ => rfl)) pe_int) pa_nil)))) (pe_or2 (pn_meth (pv 5) T.cl_Each T.m_Each_let_by c_Each_let_by (hr.mono (by decide)) (pa_cons pe_int (pa_cons (pe_ix ix_K (pv 3) pe_int (fun _ _ => rfl)) (pa_cons (pe_op op_add (pe_ix ix_K (pv 3) pe_int (fun _ _ => rfl)) pe_int) pa_nil)))) (pe_or2 (pn_meth (pv 5) T.cl_Behind T.m_Behind_let_by c_Behind_let_by (hr.mono (by decide)) (pa_cons pe_int (pa_cons (pe_ix ix_K (pv 3) pe_int (fun _ _ => rfl)) (pa_cons (pe_op op_add (pe_ix ix_K (pv 3) pe_int (fun _ _ => rfl)) pe_int) pa_nil)))) (pn_meth (pv 5) T.cl_Slowing T.m_Slowing_let_by c_Slowing_let_by (hr.mono (by decide)) (pa_cons pe_int (pa_cons (pe_ix ix_K (pv 3) pe_int (fun _ _ => rfl)) (pa_cons (pe_op op_add (pe_ix ix_K (pv 3) pe_int (fun _ _ => rfl)) pe_int) pa_nil))))))))))))
      (pss_one (ps_ret pe_bl))))))))))), ?_⟩
    repeat' (walk_at "rd1")
    rename_i k0 k1 b0 b1 p H1 r sm1 hn1 hgN hk hb hp
    have hg := hgN.good
    have hg2 := hgN.bump
    generalize id (decide (V.int (cell ns (Int.toNat 6) % 4) = V.int 0)) = b at *
    generalize cell ns (Int.toNat 0) % 4 = kk at *
    clear b0 b1 hgN
    refine r_cutM (fun σ' H' => Same H1 H' ∧ ∃ p2, σ' = [some (.ref l), some (.int kk), some (.bl b), some (.ref p), some (.ref p2), none, none, none] ∧ LAt H' p2 (dsR (bump1 r)) ∧ p ≠ p2) ?_ ?_
    · cases r with
      | once f g =>
        simp only [dsR] at hp
        repeat' (walk_at "rd1")
        refine r_cutF 2 (by walk_at "lat") (fun q2 H2 s2 n2 hq2 => ?_)
        refine r_catL (by walk_at "lat") hq2 (Nat.le_of_ble_eq_true rfl) (fun p2 H3 s3 n3 hp3 => ?_)
        exact ⟨by walk_at "same", p2, rfl, hp3, by walk_at "ne"⟩
      | each st sp wd m =>
        simp only [dsR] at hp
        repeat' (walk_at "rd1")
        refine r_cutF 2 (by walk_at "lat") (fun q2 H2 s2 n2 hq2 => ?_)
        refine r_catL (by walk_at "lat") hq2 (Nat.le_of_ble_eq_true rfl) (fun p2 H3 s3 n3 hp3 => ?_)
        exact ⟨by walk_at "same", p2, rfl, hp3, by walk_at "ne"⟩
      | behind st gp wd m =>
        simp only [dsR] at hp
        repeat' (walk_at "rd1")
        refine r_cutF 2 (by walk_at "lat") (fun q2 H2 s2 n2 hq2 => ?_)
        refine r_catL (by walk_at "lat") hq2 (Nat.le_of_ble_eq_true rfl) (fun p2 H3 s3 n3 hp3 => ?_)
        exact ⟨by walk_at "same", p2, rfl, hp3, by walk_at "ne"⟩
      | slow st gp mo wd m =>
        simp only [dsR] at hp
        repeat' (walk_at "rd1")
        refine r_cutF 2 (by walk_at "lat") (fun q2 H2 s2 n2 hq2 => ?_)
        refine r_catL (by walk_at "lat") hq2 (Nat.le_of_ble_eq_true rfl) (fun p2 H3 s3 n3 hp3 => ?_)
        exact ⟨by walk_at "same", p2, rfl, hp3, by walk_at "ne"⟩
    rintro σ' H2 ⟨sm2, p2, rfl, hp2, hne⟩
    have hp1 := hp.keeps sm2
    clear hp sm2 sm1 hn1 H1
    refine r_cutM (fun σ' H' => σ' = [some (.ref l), some (.int kk), some (.bl b), some (.ref p), some (.ref p2), none, none, none] ∧ LAt H' p (dsR r) ∧ LAt H' p2 (dsR (bump r))) ?_ ?_
    · cases r with
      | once f g =>
        have hk : 0 = kk := hk
        subst hk
        repeat' (walk_at "rd1")
        exact ⟨rfl, hp1, hp2⟩
      | each st sp wd m =>
        have hk : 1 = kk := hk
        subst hk
        repeat' (walk_at "rd1")
        exact ⟨rfl, hp1, hp2⟩
      | behind st gp wd m =>
        have hk : 2 = kk := hk
        subst hk
        repeat' (walk_at "rd1")
        exact ⟨rfl, hp1, hp2⟩
      | slow st gp mo wd m =>
        have hk : 3 = kk := hk
        subst hk
        simp only [dsR, bump1] at hp2
        repeat' (walk_at "rd1")
        exact ⟨rfl, by walk_at "lat", by assumption⟩
    rintro σ' H3 ⟨rfl, hq1, hq2⟩
    clear hp1 hp2 hne H2
    have hk2 : kR (bump r) = kk := (kR_bump r).trans hk
    have he1 : rowS (kdS kk) (dsR r) = rowR r := by rw [← hk]; rfl
    have he2 : rowS (kdS kk) (dsR (bump r)) = rowR (bump r) := by rw [← hk2]; rfl
    repeat' (walk_at "rd1")
    rename_i v H4 sm4 hv
    refine r_cutM (fun σ' H' => Same H4 H' ∧ ∃ v, σ' = [some (.ref l), some (.int kk), some (.bl b), some (.ref p), some (.ref p2), some v, none, none] ∧ RIs a H' v r) ?_ ?_
    · cases b
      · repeat' (walk_at "rd1")
        exact ⟨Same.refl _, _, rfl, hv⟩
      · have hb := hb rfl
        repeat' (walk_at "rd1")
        exact ⟨by walk_at "same", _, rfl, by assumption⟩
    rintro σ' H5 ⟨sm5, v1, rfl, hv1⟩
    clear hv
    repeat' (walk_at "rd1")
    rename_i v2 H6 sm6 hv2
    have hr1 : RIs a H6 v1 r := hv1.keeps sm6
    have hl1 : LAt H6 p (dsR r) := ((hq1.keeps sm4).keeps sm5).keeps sm6
    have hl2 : LAt H6 p2 (dsR (bump r)) := ((hq2.keeps sm4).keeps sm5).keeps sm6
    clear hv1 hq1 hq2 sm4 sm5 sm6
    refine forR_same (fun j σ' => ∃ z, σ' = [some (.ref l), some (.int kk), some (.bl b), some (.ref p), some (.ref p2), some v1, some v2, z]) ⟨_, rfl⟩ ?_ ?_
    · rintro j σ' H7 hj ⟨z, rfl⟩ sm7
      repeat' (walk_at "rd1")
      rename_i Ha sa Hb sb hb1 Hc sc Hd sd hb2
      have hR : RIs a Hd v1 r := ((((hr1.keeps sm7).keeps sa).keeps sb).keeps sc).keeps sd
      have hL : LAt Hd p (dsR r) := ((((hl1.keeps sm7).keeps sa).keeps sb).keeps sc).keeps sd
      have smd : Same H6 Hd := (((sm7.trans sa).trans sb).trans sc).trans sd
      clear sm7 sa sb sc hb1 hb2 sd hr1 hl1 hl2 he1 he2 hk hk2 hb hg2 hS
      refine r_cutM (fun σ2 H2 => Same Hd H2 ∧ ∃ z, σ2 = [some (.ref l), some (.int kk), some (.bl b), some (.ref p), some (.ref p2), some v1, some v2, z]) ?_ ?_
      · cases r with
        | once f g =>
          obtain ⟨g0, g1, g2⟩ := hg
          have hi : Ins Hd v1 a.C_Once [("many", .int 1), ("first", .int f), ("last", .int g)] := hR
          simp only [dsR] at hL
          repeat' (walk_at "rd1")
          all_goals exact ⟨by walk_at "same", _, rfl⟩
        | each st sp wd m =>
          obtain ⟨g0, g1, g2, g3, g4, g5, hm⟩ := hg
          obtain ⟨hi, ho, _⟩ := hR
          simp only [dsR] at hL
          repeat' (walk_at "rd1")
          all_goals exact ⟨by walk_at "same", _, rfl⟩
        | behind st gp wd m =>
          obtain ⟨g0, g1, g2, g3, g4, g5, hm⟩ := hg
          obtain ⟨hi, ho, _⟩ := hR
          simp only [dsR] at hL
          repeat' (walk_at "rd1")
          all_goals exact ⟨by walk_at "same", _, rfl⟩
        | slow st gp mo wd m =>
          obtain ⟨g0, g1, g2, g3, g4, g5, g6, hm⟩ := hg
          obtain ⟨hi, ho, _⟩ := hR
          simp only [dsR] at hL
          repeat' (walk_at "rd1")
          all_goals exact ⟨by walk_at "same", _, rfl⟩
      rintro σ2 He ⟨se, z2, rfl⟩
      replace hR := hR.keeps se
      replace hL := hL.keeps se
      cases r with
        | once f g =>
          obtain ⟨g0, g1, g2⟩ := hg
          have hi : Ins He v1 a.C_Once [("many", .int 1), ("first", .int f), ("last", .int g)] := hR
          simp only [dsR] at hL
          repeat' (walk_at "rd1")
          all_goals exact ⟨⟨_, rfl⟩, by walk_at "same"⟩
        | each st sp wd m =>
          obtain ⟨g0, g1, g2, g3, g4, g5, hm⟩ := hg
          obtain ⟨hi, ho, _⟩ := hR
          simp only [dsR] at hL
          repeat' (walk_at "rd1")
          all_goals exact ⟨⟨_, rfl⟩, by walk_at "same"⟩
        | behind st gp wd m =>
          obtain ⟨g0, g1, g2, g3, g4, g5, hm⟩ := hg
          obtain ⟨hi, ho, _⟩ := hR
          simp only [dsR] at hL
          repeat' (walk_at "rd1")
          all_goals exact ⟨⟨_, rfl⟩, by walk_at "same"⟩
        | slow st gp mo wd m =>
          obtain ⟨g0, g1, g2, g3, g4, g5, g6, hm⟩ := hg
          obtain ⟨hi, ho, _⟩ := hR
          simp only [dsR] at hL
          repeat' (walk_at "rd1")
          all_goals exact ⟨⟨_, rfl⟩, by walk_at "same"⟩
    · rintro σ' H7 ⟨z, rfl⟩ sm7
      repeat' (walk_at "rd1")
      exact q _
end
end My
open PySem PySem.W PyProof.Rows
theorem PySem.W.Fast.tw12599463372109137480 : True := trivial
theorem PySem.W.Fast.tw11095641130076382960 : True := trivial
theorem PySem.W.Fast.tw17846656495911748347 : True := trivial
theorem PySem.W.Fast.tw7895272829360348879 : True := trivial
set_option maxRecDepth 100000 in
set_option maxHeartbeats 0 in
theorem PySem.Challenge.cw_wakefew_k07_rules_in_words_holds : PySem.Challenge.rw_wakefew_k07_rules_in_words.Holds := by
  w_on; o_law; k_head; (case hw => w_witness2)
  k_fill
  refine L2.walk_ofK (l := PySem.Challenge.rw_wakefew_k07_rules_in_words) (n := 63) (k := 30) (x := "_law_script") (CX := L2.CX0) (sp := My.sp_law) rfl (by decide) rfl ⟨rfl, by decide, by decide⟩ (fun w h Y => PySem.W.kIn_of Y) ?F ?S ?C
  case F =>
    intro w mg fa h KX G hmg
    have T : ∃ a : My.Ad, a.f_law = a.f_law ∧ My.Txt (L2.KOf KX) mg a := by
      dsimp only [L2.KOf]
      refine' My.txt_mk KX G ?aC_Rule ?aC_Once ?aC_Each ?aC_Behind ?aC_Slowing ?hgg ?htt ?a_is_whole ?l_is_whole ?c_is_whole ?k_is_whole ?a_figures ?l_figures ?c_figures ?k_figures ?a_check_from ?l_check_from ?c_check_from ?k_check_from ?a_spans_over ?l_spans_over ?c_spans_over ?k_spans_over ?a_word_of ?l_word_of ?c_word_of ?k_word_of ?a_row_of ?l_row_of ?c_row_of ?k_row_of ?a_Rule___init__ ?l_Rule___init__ ?c_Rule___init__ ?k_Rule___init__ ?i_Rule___init__ ?a_Rule_place_of ?l_Rule_place_of ?c_Rule_place_of ?k_Rule_place_of ?i_Rule_place_of ?a_Once___init__ ?l_Once___init__ ?c_Once___init__ ?k_Once___init__ ?i_Once___init__ ?t_Once___init__ ?a_Once_follow ?l_Once_follow ?c_Once_follow ?k_Once_follow ?i_Once_follow ?a_Once_let_by ?l_Once_let_by ?c_Once_let_by ?k_Once_let_by ?i_Once_let_by ?a_Once_words ?l_Once_words ?c_Once_words ?k_Once_words ?i_Once_words ?a_Each___init__ ?l_Each___init__ ?c_Each___init__ ?k_Each___init__ ?i_Each___init__ ?t_Each___init__ ?a_Each_stretch_of ?l_Each_stretch_of ?c_Each_stretch_of ?k_Each_stretch_of ?i_Each_stretch_of ?a_Each_follow ?l_Each_follow ?c_Each_follow ?k_Each_follow ?i_Each_follow ?a_Each_let_by ?l_Each_let_by ?c_Each_let_by ?k_Each_let_by ?i_Each_let_by ?a_Each_words ?l_Each_words ?c_Each_words ?k_Each_words ?i_Each_words ?a_Behind___init__ ?l_Behind___init__ ?c_Behind___init__ ?k_Behind___init__ ?i_Behind___init__ ?t_Behind___init__ ?a_Behind_gap_ahead ?l_Behind_gap_ahead ?c_Behind_gap_ahead ?k_Behind_gap_ahead ?i_Behind_gap_ahead ?a_Behind_follow ?l_Behind_follow ?c_Behind_follow ?k_Behind_follow ?i_Behind_follow ?a_Behind_let_by ?l_Behind_let_by ?c_Behind_let_by ?k_Behind_let_by ?i_Behind_let_by ?a_Behind_leap ?l_Behind_leap ?c_Behind_leap ?k_Behind_leap ?i_Behind_leap ?a_Behind_words ?l_Behind_words ?c_Behind_words ?k_Behind_words ?i_Behind_words ?a_Slowing___init__ ?l_Slowing___init__ ?c_Slowing___init__ ?k_Slowing___init__ ?i_Slowing___init__ ?t_Slowing___init__ ?a_Slowing_gap_ahead ?l_Slowing_gap_ahead ?c_Slowing_gap_ahead ?k_Slowing_gap_ahead ?i_Slowing_gap_ahead ?a_Slowing_let_by ?l_Slowing_let_by ?c_Slowing_let_by ?k_Slowing_let_by ?i_Slowing_let_by ?a_Slowing_words ?l_Slowing_words ?c_Slowing_words ?k_Slowing_words ?i_Slowing_words ?a__law_cell_at ?l__law_cell_at ?c__law_cell_at ?k__law_cell_at ?a__law_number ?l__law_number ?c__law_number ?k__law_number ?a__law_numbers ?l__law_numbers ?c__law_numbers ?k__law_numbers ?a__law_made ?l__law_made ?c__law_made ?k__law_made ?a__law_bare ?l__law_bare ?c__law_bare ?k__law_bare ?a__law_due ?l__law_due ?c__law_due ?k__law_due ?a__law_says ?l__law_says ?c__law_says ?k__law_says ?a_law ?l_law ?c_law ?k_law ?pg_Rule ?hd_Rule ?po_Rule ?sa_Rule ?mk_Rule ?kc_Rule ?t1_Rule ?t2_Rule ?t3_Rule ?pg_Once ?hd_Once ?po_Once ?sa_Once ?na_Once_many ?na_Once_first ?na_Once_last ?mk_Once ?kc_Once ?im_Once_place_of ?t1_Once ?t2_Once ?t3_Once ?pg_Each ?hd_Each ?po_Each ?sa_Each ?na_Each_many ?na_Each_start ?na_Each_step ?na_Each_wide ?mk_Each ?kc_Each ?im_Each_place_of ?t1_Each ?t2_Each ?t3_Each ?pg_Behind ?hd_Behind ?po_Behind ?sa_Behind ?na_Behind_many ?na_Behind_start ?na_Behind_gap ?na_Behind_wide ?mk_Behind ?kc_Behind ?im_Behind_place_of ?t1_Behind ?t2_Behind ?t3_Behind ?pg_Slowing ?hd_Slowing ?po_Slowing ?sa_Slowing ?na_Slowing_many ?na_Slowing_start ?na_Slowing_gap ?na_Slowing_wide ?na_Slowing_most ?mk_Slowing ?kc_Slowing ?im_Slowing_follow ?im_Slowing_leap ?im_Slowing_place_of ?t1_Slowing ?t2_Slowing ?t3_Slowing ?b1_Behind___init__ ?b2_Behind___init__ ?b3_Behind___init__ ?b1_Rule___init__ ?b2_Rule___init__ ?b3_Rule___init__ ?no_bool ?no_int ?no_isinstance ?no_len ?no_max ?no_min ?no_range ?no_str
      (case aC_Rule => k_is)
      (case aC_Once => k_is)
      (case aC_Each => k_is)
      (case aC_Behind => k_is)
      (case aC_Slowing => k_is)
      (case hgg => k_is)
      (case htt => k_is)
      (case a_is_whole => k_is)
      (case l_is_whole => k_is)
      (case c_is_whole => k_is)
      (case k_is_whole => k_is)
      (case a_figures => k_is)
      (case l_figures => k_is)
      (case c_figures => k_is)
      (case k_figures => k_is)
      (case a_check_from => k_is)
      (case l_check_from => k_is)
      (case c_check_from => k_is)
      (case k_check_from => k_is)
      (case a_spans_over => k_is)
      (case l_spans_over => k_is)
      (case c_spans_over => k_is)
      (case k_spans_over => k_is)
      (case a_word_of => k_is)
      (case l_word_of => k_is)
      (case c_word_of => k_is)
      (case k_word_of => k_is)
      (case a_row_of => k_is)
      (case l_row_of => k_is)
      (case c_row_of => k_is)
      (case k_row_of => k_is)
      (case a_Rule___init__ => k_is)
      (case l_Rule___init__ => k_is)
      (case c_Rule___init__ => k_is)
      (case k_Rule___init__ => k_is)
      (case i_Rule___init__ => k_is)
      (case a_Rule_place_of => k_is)
      (case l_Rule_place_of => k_is)
      (case c_Rule_place_of => k_is)
      (case k_Rule_place_of => k_is)
      (case i_Rule_place_of => k_is)
      (case a_Once___init__ => k_is)
      (case l_Once___init__ => k_is)
      (case c_Once___init__ => k_is)
      (case k_Once___init__ => k_is)
      (case i_Once___init__ => k_is)
      (case t_Once___init__ => k_is)
      (case a_Once_follow => k_is)
      (case l_Once_follow => k_is)
      (case c_Once_follow => k_is)
      (case k_Once_follow => k_is)
      (case i_Once_follow => k_is)
      (case a_Once_let_by => k_is)
      (case l_Once_let_by => k_is)
      (case c_Once_let_by => k_is)
      (case k_Once_let_by => k_is)
      (case i_Once_let_by => k_is)
      (case a_Once_words => k_is)
      (case l_Once_words => k_is)
      (case c_Once_words => k_is)
      (case k_Once_words => k_is)
      (case i_Once_words => k_is)
      (case a_Each___init__ => k_is)
      (case l_Each___init__ => k_is)
      (case c_Each___init__ => k_is)
      (case k_Each___init__ => k_is)
      (case i_Each___init__ => k_is)
      (case t_Each___init__ => k_is)
      (case a_Each_stretch_of => k_is)
      (case l_Each_stretch_of => k_is)
      (case c_Each_stretch_of => k_is)
      (case k_Each_stretch_of => k_is)
      (case i_Each_stretch_of => k_is)
      (case a_Each_follow => k_is)
      (case l_Each_follow => k_is)
      (case c_Each_follow => k_is)
      (case k_Each_follow => k_is)
      (case i_Each_follow => k_is)
      (case a_Each_let_by => k_is)
      (case l_Each_let_by => k_is)
      (case c_Each_let_by => k_is)
      (case k_Each_let_by => k_is)
      (case i_Each_let_by => k_is)
      (case a_Each_words => k_is)
      (case l_Each_words => k_is)
      (case c_Each_words => k_is)
      (case k_Each_words => k_is)
      (case i_Each_words => k_is)
      (case a_Behind___init__ => k_is)
      (case l_Behind___init__ => k_is)
      (case c_Behind___init__ => k_is)
      (case k_Behind___init__ => k_is)
      (case i_Behind___init__ => k_is)
      (case t_Behind___init__ => k_is)
      (case a_Behind_gap_ahead => k_is)
      (case l_Behind_gap_ahead => k_is)
      (case c_Behind_gap_ahead => k_is)
      (case k_Behind_gap_ahead => k_is)
      (case i_Behind_gap_ahead => k_is)
      (case a_Behind_follow => k_is)
      (case l_Behind_follow => k_is)
      (case c_Behind_follow => k_is)
      (case k_Behind_follow => k_is)
      (case i_Behind_follow => k_is)
      (case a_Behind_let_by => k_is)
      (case l_Behind_let_by => k_is)
      (case c_Behind_let_by => k_is)
      (case k_Behind_let_by => k_is)
      (case i_Behind_let_by => k_is)
      (case a_Behind_leap => k_is)
      (case l_Behind_leap => k_is)
      (case c_Behind_leap => k_is)
      (case k_Behind_leap => k_is)
      (case i_Behind_leap => k_is)
      (case a_Behind_words => k_is)
      (case l_Behind_words => k_is)
      (case c_Behind_words => k_is)
      (case k_Behind_words => k_is)
      (case i_Behind_words => k_is)
      (case a_Slowing___init__ => k_is)
      (case l_Slowing___init__ => k_is)
      (case c_Slowing___init__ => k_is)
      (case k_Slowing___init__ => k_is)
      (case i_Slowing___init__ => k_is)
      (case t_Slowing___init__ => k_is)
      (case a_Slowing_gap_ahead => k_is)
      (case l_Slowing_gap_ahead => k_is)
      (case c_Slowing_gap_ahead => k_is)
      (case k_Slowing_gap_ahead => k_is)
      (case i_Slowing_gap_ahead => k_is)
      (case a_Slowing_let_by => k_is)
      (case l_Slowing_let_by => k_is)
      (case c_Slowing_let_by => k_is)
      (case k_Slowing_let_by => k_is)
      (case i_Slowing_let_by => k_is)
      (case a_Slowing_words => k_is)
      (case l_Slowing_words => k_is)
      (case c_Slowing_words => k_is)
      (case k_Slowing_words => k_is)
      (case i_Slowing_words => k_is)
      (case a__law_cell_at => k_is)
      (case l__law_cell_at => k_is)
      (case c__law_cell_at => k_is)
      (case k__law_cell_at => k_is)
      (case a__law_number => k_is)
      (case l__law_number => k_is)
      (case c__law_number => k_is)
      (case k__law_number => k_is)
      (case a__law_numbers => k_is)
      (case l__law_numbers => k_is)
      (case c__law_numbers => k_is)
      (case k__law_numbers => k_is)
      (case a__law_made => k_is)
      (case l__law_made => k_is)
      (case c__law_made => k_is)
      (case k__law_made => k_is)
      (case a__law_bare => k_is)
      (case l__law_bare => k_is)
      (case c__law_bare => k_is)
      (case k__law_bare => k_is)
      (case a__law_due => k_is)
      (case l__law_due => k_is)
      (case c__law_due => k_is)
      (case k__law_due => k_is)
      (case a__law_says => k_is)
      (case l__law_says => k_is)
      (case c__law_says => k_is)
      (case k__law_says => k_is)
      (case a_law => k_is)
      (case l_law => k_is)
      (case c_law => k_is)
      (case k_law => k_is)
      (case pg_Rule => k_is)
      (case hd_Rule => k_is)
      (case po_Rule => k_is)
      (case sa_Rule => k_is)
      (case mk_Rule => k_is)
      (case kc_Rule => k_is)
      (case t1_Rule => k_is)
      (case t2_Rule => k_is)
      (case t3_Rule => k_is)
      (case pg_Once => k_is)
      (case hd_Once => k_is)
      (case po_Once => k_is)
      (case sa_Once => k_is)
      (case na_Once_many => k_is)
      (case na_Once_first => k_is)
      (case na_Once_last => k_is)
      (case mk_Once => k_is)
      (case kc_Once => k_is)
      (case im_Once_place_of => k_is)
      (case t1_Once => k_is)
      (case t2_Once => k_is)
      (case t3_Once => k_is)
      (case pg_Each => k_is)
      (case hd_Each => k_is)
      (case po_Each => k_is)
      (case sa_Each => k_is)
      (case na_Each_many => k_is)
      (case na_Each_start => k_is)
      (case na_Each_step => k_is)
      (case na_Each_wide => k_is)
      (case mk_Each => k_is)
      (case kc_Each => k_is)
      (case im_Each_place_of => k_is)
      (case t1_Each => k_is)
      (case t2_Each => k_is)
      (case t3_Each => k_is)
      (case pg_Behind => k_is)
      (case hd_Behind => k_is)
      (case po_Behind => k_is)
      (case sa_Behind => k_is)
      (case na_Behind_many => k_is)
      (case na_Behind_start => k_is)
      (case na_Behind_gap => k_is)
      (case na_Behind_wide => k_is)
      (case mk_Behind => k_is)
      (case kc_Behind => k_is)
      (case im_Behind_place_of => k_is)
      (case t1_Behind => k_is)
      (case t2_Behind => k_is)
      (case t3_Behind => k_is)
      (case pg_Slowing => k_is)
      (case hd_Slowing => k_is)
      (case po_Slowing => k_is)
      (case sa_Slowing => k_is)
      (case na_Slowing_many => k_is)
      (case na_Slowing_start => k_is)
      (case na_Slowing_gap => k_is)
      (case na_Slowing_wide => k_is)
      (case na_Slowing_most => k_is)
      (case mk_Slowing => k_is)
      (case kc_Slowing => k_is)
      (case im_Slowing_follow => k_is)
      (case im_Slowing_leap => k_is)
      (case im_Slowing_place_of => k_is)
      (case t1_Slowing => k_is)
      (case t2_Slowing => k_is)
      (case t3_Slowing => k_is)
      (case b1_Behind___init__ => k_is)
      (case b2_Behind___init__ => k_is)
      (case b3_Behind___init__ => k_is)
      (case b1_Rule___init__ => k_is)
      (case b2_Rule___init__ => k_is)
      (case b3_Rule___init__ => k_is)
      (case no_bool => k_is)
      (case no_int => k_is)
      (case no_isinstance => k_is)
      (case no_len => k_is)
      (case no_max => k_is)
      (case no_min => k_is)
      (case no_range => k_is)
      (case no_str => k_is)
    obtain ⟨a, _, T⟩ := T
    have e0 := hmg.symm.trans T.mg_law
    cases e0
    exact ⟨a.fd_law, fun s u => My.law_binds T s u, fun base kb nb => (My.ok_law T).mono (by decide)⟩
  case S => exact fun K H l ns hl hO hS => ⟨l, ns, rfl, hS, hl, fun _ => rfl⟩
  case C => exact fun H s e s' h => h
