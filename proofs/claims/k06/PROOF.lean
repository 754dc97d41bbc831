import PyProof.Rows.All
import Wide.All
import OpenK.AllK
import Wide.FinOn
import Lean
import PyProof.EqAt
import PyProof.EqKinds
import PyProof.TupleCall
import PySem.Challenge.RW_wakefew_k06_rules_refused
set_option compiler.extract_closed false
set_option Elab.async false
set_option linter.all false
set_option maxRecDepth 100000
namespace L2
open PySem PySem.Spec PyProof.Rows

abbrev Key := Sum Int Str
def keyIs : Key → Value → Bool
  | .inl k, v => Value.isInt k v
  | .inr x, v => Value.isStrOf x v
def keyH (w : World) : Key → Int
  | .inl k => hashInt k
  | .inr x => hashStr w x
theorem keyIs_shape : ∀ {k : Key} {v : Value}, keyIs k v = true → (∃ i t, k = Sum.inl i ∧ v = Value.int i t) ∨ (∃ x t, k = Sum.inr x ∧ v = Value.str x t)
  | .inl i, v, h => by
    obtain ⟨t, e⟩ := Value.isInt_shape (k := i) (v := v) h
    exact .inl ⟨i, t, rfl, e⟩
  | .inr x, v, h => by
    obtain ⟨t, e⟩ := Value.isStrOf_shape (x := x) (v := v) h
    exact .inr ⟨x, t, rfl, e⟩
theorem key_ll (a b : Int) : decide ((Sum.inl a : Key) = Sum.inl b) = (a == b) := by
  by_cases e : a = b
  · subst e; simp
  · have h : ¬ (Sum.inl a : Key) = Sum.inl b := fun q => e (Sum.inl.inj q)
    rw [decide_eq_false h]
    exact (beq_eq_false_iff_ne.mpr e).symm
theorem key_rr (a b : Str) : decide ((Sum.inr a : Key) = Sum.inr b) = decide (a = b) := by
  by_cases e : a = b
  · subst e; simp
  · have h : ¬ (Sum.inr a : Key) = Sum.inr b := fun q => e (Sum.inr.inj q)
    rw [decide_eq_false h, decide_eq_false e]
theorem key_lr (a : Int) (b : Str) : decide ((Sum.inl a : Key) = Sum.inr b) = false := decide_eq_false (fun q => nomatch q)
theorem key_rl (a : Str) (b : Int) : decide ((Sum.inr a : Key) = Sum.inl b) = false := decide_eq_false (fun q => nomatch q)

def mixKind (prog : Program) (w : World) : PySem.KeyKind prog w Key where
  is := keyIs
  hash := keyH w
  inj := fun v a b ha hb => by
    rcases keyIs_shape ha with ⟨i, t, rfl, rfl⟩ | ⟨x, t, rfl, rfl⟩
    · rcases keyIs_shape hb with ⟨j, u, rfl, e⟩ | ⟨y, u, rfl, e⟩
      · injection e with e1 _; rw [e1]
      · exact nomatch e
    · rcases keyIs_shape hb with ⟨j, u, rfl, e⟩ | ⟨y, u, rfl, e⟩
      · exact nomatch e
      · injection e with e1 _; rw [e1]
  byValue := fun k v h => by
    rcases keyIs_shape h with ⟨i, t, rfl, rfl⟩ | ⟨x, t, rfl, rfl⟩ <;> rfl
  pyHash := fun hv h => by
    rcases keyIs_shape hv with ⟨i, t, rfl, rfl⟩ | ⟨x, t, rfl, rfl⟩
    · exact wpAny_pyHash_int h
    · exact wpAny_pyHash_str h
  eqBool := fun hu hv h => by
    rcases keyIs_shape hu with ⟨i, t, rfl, rfl⟩ | ⟨x, t, rfl, rfl⟩
    · rcases keyIs_shape hv with ⟨j, u, rfl, rfl⟩ | ⟨y, u, rfl, rfl⟩
      · rw [key_ll] at h; exact wpAny_eqBool_int h
      · rw [key_lr] at h; exact SeqAt.EqAt.int_str i t y u _ _ _ _ h
    · rcases keyIs_shape hv with ⟨j, u, rfl, rfl⟩ | ⟨y, u, rfl, rfl⟩
      · rw [key_rl] at h; exact SeqAt.EqAt.str_int x t j u _ _ _ _ h
      · rw [key_rr] at h; exact wpAny_eqBool_str h
  «strs» := fun k x t v h => by
    rcases keyIs_shape h with ⟨i, u, rfl, e⟩ | ⟨y, u, rfl, e⟩
    · exact nomatch e
    · injection e with e1 _
      subst e1
      cases v <;> rfl

end L2

namespace L2
open PySem PySem.Spec PyProof.Rows

inductive V where
  | non | bl (b : Bool) | int (i : Int) | str (x : Str) | byt (b : Array UInt8) | flt (b : UInt64) | ref (a : Addr) | ty (n : String)
  deriving DecidableEq

def RelV : V → Value → Prop
  | .non, u => u = Value.none
  | .bl b, u => u = Value.bool b
  | .int i, u => ∃ t, u = Value.int i t
  | .str x, u => ∃ t, u = Value.str x t
  | .byt b, u => ∃ t, u = Value.bytes b t
  | .flt b, u => ∃ t, u = Value.float b t
  | .ref a, u => u = Value.ref a
  | .ty n, u => u = Value.type n

abbrev Vals : List V → List Value → Prop := Paired RelV
theorem Vals.length {xs : List V} {us : List Value} (r : Vals xs us) : xs.length = us.length := Paired.length r
theorem Vals.get : ∀ {xs : List V} {us : List Value} {i : Nat} {x : V}, Vals xs us → xs[i]? = some x → ∃ u, us[i]? = some u ∧ RelV x u
  | _, _, _, _, .nil, e => by simp at e
  | _, _, 0, _, .cons r _, e => by simp at e; subst e; exact ⟨_, rfl, r⟩
  | _, _, i + 1, x, .cons _ t, e => by
    obtain ⟨u, h1, h2⟩ := Vals.get (i := i) (x := x) t (by simpa using e)
    exact ⟨u, by simpa using h1, h2⟩
theorem Vals.append : ∀ {xs ys : List V} {us ws : List Value}, Vals xs us → Vals ys ws → Vals (xs ++ ys) (us ++ ws)
  | _, _, _, _, .nil, s => s
  | _, _, _, _, .cons r t, s => .cons r (Vals.append t s)
theorem Vals.take : ∀ {xs : List V} {us : List Value} (n : Nat), Vals xs us → Vals (xs.take n) (us.take n)
  | _, _, 0, _ => .nil
  | _, _, _ + 1, .nil => .nil
  | _, _, n + 1, .cons r t => .cons r (Vals.take n t)
theorem Vals.drop : ∀ {xs : List V} {us : List Value} (n : Nat), Vals xs us → Vals (xs.drop n) (us.drop n)
  | _, _, 0, r => r
  | _, _, _ + 1, .nil => .nil
  | _, _, n + 1, .cons _ t => Vals.drop n t
def RelO : Option V → Option Value → Prop
  | some v, some u => RelV v u
  | none, none => True
  | _, _ => False
def KV {κ : Type} : List (κ × V) → List (κ × Value) → Prop := Paired fun (p : κ × V) (q : κ × Value) => p.1 = q.1 ∧ RelV p.2 q.2

def kV : Key → V
  | .inl i => .int i
  | .inr x => .str x

inductive HO where
    | lst (xs : List V)
    | tup (xs : List V)
    | dK (kvs : List (Key × V)) | dT (kvs : List (List Key × V))
    | set (S : Int → Bool) (n : Nat)
    | ins (C dx : Addr) (fs : List (Str × V))
    | own (x : Addr)
    | xd (fs : List (Str × V))
    | met (f x : Addr)
    | rng (lo hi : Int)
    | frz (o : Obj) (u : HO)
    | tbl (ps : Array Value)
    | ext (φ : Heap → Prop)

abbrev Hp := Addr → Option HO
def upd (H : Hp) (a : Addr) (o : HO) : Hp := fun b => if b = a then some o else H b
theorem upd_same {H : Hp} {a : Addr} {o : HO} : upd H a o a = some o := by unfold upd; rw [if_pos rfl]
theorem upd_ne {H : Hp} {a b : Addr} {o : HO} (h : b ≠ a) : upd H a o b = H b := by unfold upd; rw [if_neg h]
theorem upd_upd {H : Hp} {a : Addr} {o u : HO} : upd (upd H a o) a u = upd H a u := by
  funext b; unfold upd; split <;> rfl
theorem ne_of_none {H : Hp} {a b : Addr} {o : HO} (h : H a = some o) (h' : H b = none) : a ≠ b := by
  intro e; subst e; rw [h] at h'; cases h'

section
variable (P : Program) (w : World)
def ObjOk (H : Hp) (h : Heap) (a : Addr) : HO → Prop
  | .lst xs => xs.length ≤ sizeLine ∧ ∃ (its : List Value) (n : Nat), Vals xs its ∧ h.get? a = some { cls := .type "list", data := .seq its.toArray n }
  | .tup xs => xs.length ≤ sizeLine ∧ ∃ its : List Value, Vals xs its ∧ IsTup h a its.toArray
  | .dK kvs => kvs.length ≤ sizeLine ∧ (a == sysModules) = false ∧ ∃ vs, KV kvs vs ∧ h.DictOf (mixKind P w) a vs
  | .dT kvs => kvs.length ≤ sizeLine ∧ (a == sysModules) = false ∧ ∃ xs : List (List Key × Addr × Value),
      Paired (fun (p : List Key × V) (q : List Key × Addr × Value) => p.1 = q.1 ∧ H q.2.1 = some (.tup (p.1.map kV)) ∧ RelV p.2 q.2.2) kvs xs ∧
      ∃ o es ep, h.get? a = some o ∧ o.ExactDict ∧ o.data = .dict es ep ∧ es.toList = xs.map (entryOfKey (tupleKind (mixKind P w))) ∧ (xs.map (·.1)).Nodup
  | .set S n => h.SetOf (intKind P w) a S n
  | .ins C dx fs => H dx = some (.own a) ∧ fs.length ≤ 1000 ∧ dx ≠ a ∧ h.get? a = some (PySem.W.instObj C dx) ∧
      ∃ mA, h.Ns1 dx mA ∧ (∀ f, RelO (fs.lookup f) (mA f)) ∧ PySem.Within mA (fs.map (·.1))
  | .own _ => ∃ o, h.get? a = some o
  | .xd fs => ∃ mA, h.Ns1 a mA ∧ ∀ f, RelO (fs.lookup f) (mA f)
  | .rng lo hi => ∃ t u v, h.get? a = some { cls := .type "range", data := .fields #[.int lo t, .int hi u, .int 1 v] }
  | .frz o u => h.get? a = some o ∧ ObjOk H h a u
  | .tbl ps => h.get? a = some { cls := .none, data := .fields ps }
  | .met f x => h.get? a = some (PySem.W.methodObj (.ref f) (.ref x))
  | .ext φ => φ h ∧ (∃ o, h.get? a = some o) ∧ ∀ h1 h2 : Heap, φ h1 → (∀ o, h1.get? a = some o → h2.get? a = some o) → φ h2
def HOk (H : Hp) (h : Heap) : Prop := ∀ a o, H a = some o → ObjOk P w H h a o
end

section
variable {P : Program} {w : World} {H H' : Hp} {h h' : Heap} {a : Addr} {o : HO}
theorem ObjOk.lt (x : ObjOk P w H h a o) : a < h.objs.size := by
  cases o with
  | lst xs => obtain ⟨_, _, _, _, e⟩ := x; exact Heap.lt_size e
  | tup xs => obtain ⟨_, _, _, p⟩ := x; exact p.lt
  | dK kvs => obtain ⟨_, _, _, _, o, _, _, e, _⟩ := x; exact Heap.lt_size e
  | dT kvs => obtain ⟨_, _, _, _, o, _, _, e, _⟩ := x; exact Heap.lt_size e
  | set S n => obtain ⟨o, _, _, _, e, _⟩ := x; exact Heap.lt_size e
  | ins C dx fs => obtain ⟨_, _, _, e, _⟩ := x; exact Heap.lt_size e
  | own y => obtain ⟨_, e⟩ := x; exact Heap.lt_size e
  | xd fs => obtain ⟨_, ⟨_, _, _, e, _⟩, _⟩ := x; exact Heap.lt_size e
  | rng lo hi => obtain ⟨_, _, _, e⟩ := x; exact Heap.lt_size e
  | frz ob u => obtain ⟨e, _⟩ := x; exact Heap.lt_size e
  | tbl ps => exact Heap.lt_size (show h.get? a = some _ from x)
  | met f y => exact Heap.lt_size (show h.get? a = some _ from x)
  | ext φ => obtain ⟨_, ⟨_, e⟩, _⟩ := x; exact Heap.lt_size e
theorem Paired.mapP {α β : Type} {F G : α → β → Prop} : ∀ {l₁ : List α} {l₂ : List β}, Paired F l₁ l₂ → (∀ a b, F a b → G a b) → Paired G l₁ l₂
  | _, _, .nil, _ => .nil
  | _, _, .cons r t, f => .cons (f _ _ r) (Paired.mapP t f)
theorem ObjOk.stay (x : ObjOk P w H h a o) (k : ∀ b u, (b = a ∨ H b = some (.own a)) → h.get? b = some u → h'.get? b = some u)
    (ho : ∀ b, H b = some (.own a) → H' b = some (.own a)) (ht : ∀ b xs, H b = some (.tup xs) → H' b = some (.tup xs)) : ObjOk P w H' h' a o := by
  induction o with
  | lst xs => obtain ⟨z, its, n, r, e⟩ := x; exact ⟨z, its, n, r, k _ _ (.inl rfl) e⟩
  | tup xs => obtain ⟨z, its, r, ob, e, c⟩ := x; exact ⟨z, its, r, ob, k _ _ (.inl rfl) e, c⟩
  | dK kvs => obtain ⟨z, y, vs, r, ob, es, ep, e, c⟩ := x; exact ⟨z, y, vs, r, ob, es, ep, k _ _ (.inl rfl) e, c⟩
  | dT kvs =>
    obtain ⟨z, y, xs, r, ob, es, ep, e, c⟩ := x
    exact ⟨z, y, xs, Paired.mapP r fun p q z => ⟨z.1, ht _ _ z.2.1, z.2.2⟩, ob, es, ep, k _ _ (.inl rfl) e, c⟩
  | set S n => obtain ⟨ob, es, ep, t, e, c⟩ := x; exact ⟨ob, es, ep, t, k _ _ (.inl rfl) e, c⟩
  | ins C dx fs =>
    obtain ⟨d, z, ne, e, mA, ⟨od, es, ep, e2, c⟩, r⟩ := x
    exact ⟨ho _ d, z, ne, k _ _ (.inl rfl) e, mA, ⟨od, es, ep, k _ _ (.inr d) e2, c⟩, r⟩
  | own y => obtain ⟨ob, e⟩ := x; exact ⟨ob, k _ _ (.inl rfl) e⟩
  | xd fs => obtain ⟨mA, ⟨od, es, ep, e, c⟩, r⟩ := x; exact ⟨mA, ⟨od, es, ep, k _ _ (.inl rfl) e, c⟩, r⟩
  | rng lo hi => obtain ⟨t, u, v, e⟩ := x; exact ⟨t, u, v, k _ _ (.inl rfl) e⟩
  | frz ob u ih => obtain ⟨e, q⟩ := x; exact ⟨k _ _ (.inl rfl) e, ih q⟩
  | tbl ps =>
    have e : h.get? a = some { cls := .none, data := .fields ps } := x
    show h'.get? a = some { cls := .none, data := .fields ps }
    exact k a _ (.inl rfl) e
  | met f y =>
    have e : h.get? a = some (PySem.W.methodObj (.ref f) (.ref y)) := x
    show h'.get? a = some (PySem.W.methodObj (.ref f) (.ref y))
    exact k a _ (.inl rfl) e
  | ext φ => obtain ⟨p, ⟨o, e⟩, st⟩ := x; exact ⟨st _ _ p fun o q => k _ _ (.inl rfl) q, ⟨o, k _ _ (.inl rfl) e⟩, st⟩
theorem HOk.lt (x : HOk P w H h) (e : H a = some o) : a < h.objs.size := (x a o e).lt
theorem HOk.fresh (x : HOk P w H h) (e : h.objs.size ≤ a) : H a = none := by
  cases q : H a with
  | none => rfl
  | some u => exact absurd (Nat.lt_of_lt_of_le (x.lt q) e) (Nat.lt_irrefl _)
theorem HOk.kept (x : HOk P w H h) (k : ∀ b u, h.get? b = some u → h'.get? b = some u) : HOk P w H h' := fun a o e =>
  (x a o e).stay (fun b u _ q => k b u q) (fun _ q => q) fun _ _ q => q
theorem HOk.laid (x : HOk P w H h) (k : ∀ b u, h.get? b = some u → h'.get? b = some u) (hp : h.objs.size ≤ a) (new : ObjOk P w (upd H a o) h' a o) : HOk P w (upd H a o) h' := fun b u e => by
  have hn := x.fresh hp
  by_cases hb : b = a
  · subst hb; rw [upd_same] at e; cases e; exact new
  · rw [upd_ne hb] at e
    exact (x b u e).stay (fun c v _ q => k c v q) (fun c q => by rw [upd_ne (ne_of_none q hn)]; exact q) fun c xs q => by rw [upd_ne (ne_of_none q hn)]; exact q
end

def Rd (H : Hp) (a : Addr) (u : HO) : Prop := H a = some u ∨ ∃ o, H a = some (.frz o u)
theorem Rd.of {H : Hp} {a : Addr} {u : HO} (h : H a = some u) : Rd H a u := .inl h
theorem Rd.ok {P : Program} {w : World} {H : Hp} {h : Heap} {a : Addr} {u : HO} (r : Rd H a u) (x : HOk P w H h) : ObjOk P w H h a u := by
  rcases r with r | ⟨o, r⟩
  · exact x a u r
  · obtain ⟨_, q⟩ := x a _ r
    exact q
def Mut : Option HO → Prop
  | some (.lst _) => True
  | some (.dK _) => True
  | some (.dT _) => True
  | some (.set _ _) => True
  | some (.ins _ _ _) => True
  | some (.ext _) => True
  | _ => False
section
variable {P : Program} {w : World} {H : Hp} {h h' : Heap} {x e : Addr} {o' : HO}
theorem HOk.write (ok : HOk P w H h) (mu : Mut (H x)) (he : e = x ∨ H e = some (.own x)) (k : ∀ b u, b ≠ e → h.get? b = some u → h'.get? b = some u) (heo : ∃ u, h'.get? e = some u)
    (new : ObjOk P w (upd H x o') h' x o') : HOk P w (upd H x o') h' := fun b u q => by
  have nown : ∀ c y, H c = some (.own y) → c ≠ x := fun c y r z => by subst z; rw [r] at mu; exact mu
  have ntup : ∀ c xs, H c = some (.tup xs) → c ≠ x := fun c xs r z => by subst z; rw [r] at mu; exact mu
  by_cases hb : b = x
  · subst hb; rw [upd_same] at q; cases q; exact new
  · rw [upd_ne hb] at q
    by_cases hbe : b = e
    · have q' : H b = some (.own x) := by
        rcases he with z | z
        · exact absurd (hbe.trans z) hb
        · rw [hbe]; exact z
      rw [q] at q'; cases q'
      obtain ⟨v, hv⟩ := heo
      exact ⟨v, by rw [hbe]; exact hv⟩
    · refine (ok b u q).stay (fun c v hc r => k c v ?_ r) (fun c r => by rw [upd_ne (nown c b r)]; exact r) fun c xs r => by rw [upd_ne (ntup c xs r)]; exact r
      rcases hc with rfl | hc
      · exact hbe
      · rintro rfl
        rcases he with z | z
        · exact nown c b hc z
        · rw [hc] at z; cases z; exact hb rfl
end

structure Un (fs ex : List Addr) (H H' : Hp) (h h' : Heap) : Prop where
  keep : ∀ b o, h.get? b = some o → H b = none → b ∉ fs → b ∉ ex → h'.get? b = some o
  slot : ∀ b o, h.get? b = some o → H b = none → b ∈ fs → b ∉ ex → ∃ sl, h'.get? b = some { o with slots := sl }
  free : ∀ b o, h.get? b = some o → H b = none → b ∉ ex → H' b = none
  there : ∀ b o, h.get? b = some o → b ∉ ex → ∃ o', h'.get? b = some o'
  tups : ∀ b xs, H b = some (.tup xs) → H' b = some (.tup xs)
  frzs : ∀ b o u, H b = some (.frz o u) → H' b = some (.frz o u)
  tbls : ∀ b ps, H b = some (.tbl ps) → ∃ more, H' b = some (.tbl (ps ++ more))
section
variable {fs fs' ex ex' : List Addr} {H H1 H2 : Hp} {h h1 h2 h' : Heap} {a x e : Addr} {o : HO}
theorem Un.any (u : Un fs ex H H1 h h1) {b : Addr} {ob : Obj} (q : h.get? b = some ob) (n : H b = none) (hx : b ∉ ex) : ∃ sl, h1.get? b = some { ob with slots := sl } := by
  by_cases hb : b ∈ fs
  · exact u.slot b ob q n hb hx
  · exact ⟨ob.slots, u.keep b ob q n hb hx⟩
theorem Un.kept (k : ∀ b u, h.get? b = some u → h'.get? b = some u) : Un fs ex H H h h' :=
  ⟨fun b ob q _ _ _ => k b ob q, fun b ob q _ _ _ => ⟨ob.slots, k b ob q⟩, fun _ _ _ n _ => n, fun b ob q _ => ⟨ob, k b ob q⟩, fun _ _ q => q, fun _ _ _ q => q, fun _ ps q => ⟨#[], by rw [q]; simp⟩⟩
theorem Un.refl : Un fs ex H H h h := Un.kept fun _ _ q => q
theorem Un.laid (k : ∀ b u, h.get? b = some u → h'.get? b = some u) (hp : h.objs.size ≤ a) (hn : H a = none) : Un fs ex H (upd H a o) h h' where
  keep := fun b u q _ _ _ => k b u q
  slot := fun b u q _ _ _ => ⟨u.slots, k b u q⟩
  free := fun b u q n _ => by rw [upd_ne (Nat.ne_of_lt (Nat.lt_of_lt_of_le (Heap.lt_size q) hp))]; exact n
  there := fun b u q _ => ⟨u, k b u q⟩
  tups := fun b xs q => by rw [upd_ne (ne_of_none q hn)]; exact q
  frzs := fun b u xs q => by rw [upd_ne (ne_of_none q hn)]; exact q
  tbls := fun b ps q => ⟨#[], by rw [upd_ne (ne_of_none q hn), q]; simp⟩
theorem Un.write (mu : Mut (H x)) (he : e = x ∨ H e = some (.own x)) (k : ∀ b u, b ≠ e → h.get? b = some u → h'.get? b = some u) (heo : ∃ u, h'.get? e = some u) : Un fs ex H (upd H x o) h h' := by
  have hx : ∀ b, H b = none → b ≠ x := fun b n z => by subst z; rw [n] at mu; exact mu
  have hb : ∀ b, H b = none → b ≠ e := fun b n z => by
    subst z
    rcases he with r | r
    · exact hx b n r
    · rw [n] at r; cases r
  have hm : ∀ b u, H b = some u → ¬ Mut (some u) → b ≠ x := fun b u q nm z => by subst z; rw [q] at mu; exact nm mu
  refine ⟨fun b u q n _ _ => k b u (hb b n) q, fun b u q n _ _ => ⟨u.slots, k b u (hb b n) q⟩, fun b u q n _ => by rw [upd_ne (hx b n)]; exact n, fun b u q _ => ?_,
    fun b xs q => by rw [upd_ne (hm b _ q fun z => z)]; exact q, fun b u xs q => by rw [upd_ne (hm b _ q fun z => z)]; exact q, fun b ps q => ⟨#[], by rw [upd_ne (hm b _ q fun z => z), q]; simp⟩⟩
  by_cases hbe : b = e
  · subst hbe; exact heo
  · exact ⟨u, k b u hbe q⟩
end

def trk (h : Heap) (H : Hp) : List Addr := (List.range h.objs.size).filter fun a => (H a).isSome
def hidT (h : Heap) (H : Hp) : Heap := PySem.W.hideAll h (trk h H)
theorem hidT_size (h : Heap) (H : Hp) : (hidT h H).objs.size = h.objs.size := PySem.W.hideAll_size _ _
theorem hidT_get {h : Heap} {H : Hp} {b : Addr} {o : Obj} (e : h.get? b = some o) (n : H b = none) : (hidT h H).get? b = some o :=
  PySem.W.hideAll_get _ e fun hm => by
    have q : (H b).isSome = true := (List.mem_filter.mp hm).2
    rw [n] at q; simp at q
theorem of_hidT {h : Heap} {H : Hp} {b : Addr} {o : Obj} (e : (hidT h H).get? b = some o) : h.get? b = some o ∧ H b = none := by
  have e' : h.get? b = some o := PySem.W.of_hideAll (trk h H) e
  refine ⟨e', ?_⟩
  cases q : H b with
  | none => rfl
  | some x =>
    have hm : b ∈ trk h H := List.mem_filter.mpr ⟨List.mem_range.mpr (Heap.lt_size e'), by simp [q]⟩
    have z : (hidT h H).get? b = none := PySem.W.hideAll_none (trk h H) hm
    rw [z] at e; cases e

def allNews (g h : Heap) (L : Addr) : List (Addr × Obj) := (List.range h.objs.size).filterMap fun a => if a = L ∨ (g.get? a).isSome = true then none else (h.get? a).map fun o => (a, o)
def rest (g h : Heap) (L d : Addr) : List (Addr × Obj) := (allNews g h L).filter fun p => decide (p.1 ≠ d)
end L2

namespace L2
open PySem PySem.Spec PyProof.Rows

structure Mod (K : PySem.W.Frag) (mg : Str → Option Value) (base : Heap) : Prop where
  kin : K.In base
  glob : base.Ns mainGlobals mg
  blt : ∃ mb, base.Ns builtinsNs mb ∧ ∀ x : Str, x ≠ "__name__" → mb x = bootBuiltins x
  nolimit : base.NoLimit

structure Cx where
  prog : Program
  w : World
  K : PySem.W.Frag
  mg : Str → Option Value
  base : Heap
  A : Around
  N : List Str
  s₀ : Shared
  H₀ : Hp
  env : Env
  outer : List Env
  stack : List Env
  ex : List Addr
  fn : Str → Bool
  calm : Bool
  pn : List (Addr × Obj)
  xe : Value → Shared → Prop
def frs (l : List Env) : List Addr := l.filterMap (·.frame)
abbrev Cx.fs (X : Cx) : List Addr := frs X.outer

def Vis (sc : Scope) (x : Str) : Prop := sc.names.lookup x = some .local ∨ sc.names.lookup x = some .cell ∨ sc.names.lookup x = some .free
def Loc (sc : Scope) (x : Str) : Prop := sc.names.lookup x = some .local ∨ sc.names.lookup x = some .cell
def Look (env : Env) (h : Heap) (m : Str → Option Value) (x : Str) (u : Value) : Prop :=
  (env.kindOf x = some .local ∧ m x = some u) ∨ ((env.kindOf x = some .cell ∨ env.kindOf x = some .free) ∧ ∃ c, env.cells.lookup x = some c ∧ h.IsCell c (some u))

structure Cx.Ok (X : Cx) : Prop where
  mod : Mod X.K X.mg X.base
  kind : X.env.scope.kind = .function
  glob : X.env.globals = mainGlobals
  blt : X.env.builtins = builtinsNs
  above : X.s₀.heap.objs.size ≤ X.env.locals
  inj : ∀ x y c, X.env.cells.lookup x = some c → X.env.cells.lookup y = some c → x = y
  has : ∀ x, (X.env.kindOf x = some .cell ∨ X.env.kindOf x = some .free) → ∃ c, X.env.cells.lookup x = some c
  cab : ∀ x c, X.fn x = true → X.env.cells.lookup x = some c → X.s₀.heap.objs.size ≤ c
  hd : X.calm = true → X.A.handled = none
  frames : X.A.frames = some X.stack
  stk : X.stack = X.outer ∨ (X.stack = X.env :: X.outer ∧ X.env.frame = some X.env.locals)
  exf : ∀ b ∈ X.ex, b ≠ X.env.locals ∧ ∀ x c, X.env.cells.lookup x = some c → c ≠ b
  bs : ∀ b o, X.base.get? b = some o → X.s₀.heap.get? b = some o ∧ X.H₀ b = none
  bsz : X.base.objs.size ≤ X.s₀.heap.objs.size
  noex : ∀ b o, X.base.get? b = some o → b ∉ X.ex
  exfs : ∀ b ∈ X.ex, b ∉ X.fs
  funs : X.s₀.heap.FunFrames X.base X.outer
  frf : ∀ b ∈ X.fs, X.H₀ b = none

structure Inv (X : Cx) (pins : List (Addr × Obj)) (σ : List (Option V)) (H : Hp) (s : Shared) : Prop where
  ok : X.Ok
  os : s.os = X.s₀.os
  bare : AllBare s.gens
  base : Un X.fs X.ex X.H₀ H X.s₀.heap s.heap
  loc : ∃ m, s.heap.Ns X.env.locals m ∧ ∀ (i : Nat) (x : Str) (v : V), X.N[i]? = some x → σ[i]? = some (some v) → Vis X.env.scope x → ∃ u, RelV v u ∧ Look X.env s.heap m x u
  cell : ∀ x c, X.env.cells.lookup x = some c → ∃ v, s.heap.IsCell c v
  free : H X.env.locals = none
  freeC : ∀ x c, X.env.cells.lookup x = some c → H c = none
  pin : ∀ p ∈ X.pn ++ pins, s.heap.get? p.1 = some p.2 ∧ H p.1 = none ∧ p.1 ≠ X.env.locals ∧ p.1 ∉ X.fs ∧ ∀ v, p.2.data ≠ .cell v
  hok : HOk X.prog X.w H s.heap
  len : σ.length = X.N.length

section
variable {X : Cx} {pins : List (Addr × Obj)} {σ : List (Option V)} {H H' : Hp} {s : Shared} {h' : Heap}

theorem Cx.Ok.nofr (ok : X.Ok) {b : Addr} {o : Obj} (e : X.base.get? b = some o) : b ∉ X.fs := fun hb => by
  have := (ok.funs.mem hb).1
  rw [e] at this; cases this
theorem Inv.bs (I : Inv X pins σ H s) : ∀ b o, X.base.get? b = some o → s.heap.get? b = some o ∧ H b = none := fun b o e =>
  ⟨I.base.keep b o (I.ok.bs b o e).1 (I.ok.bs b o e).2 (I.ok.nofr e) (I.ok.noex b o e), I.base.free b o (I.ok.bs b o e).1 (I.ok.bs b o e).2 (I.ok.noex b o e)⟩
theorem Inv.bk (I : Inv X pins σ H s) : ∀ b o, X.base.get? b = some o → s.heap.get? b = some o := fun b o e => (I.bs b o e).1
theorem Inv.mod (I : Inv X pins σ H s) : Mod X.K X.mg X.base := I.ok.mod
theorem Inv.kIn (I : Inv X pins σ H s) : X.K.In s.heap := I.ok.mod.kin.keeps I.bk
theorem Inv.fr (I : Inv X pins σ H s) : ∃ m, Fr X.base X.env.locals s.heap m :=
  let ⟨m, hn, _⟩ := I.loc
  ⟨m, hn, I.bk, Nat.le_trans I.ok.bsz I.ok.above⟩
theorem Inv.lt (I : Inv X pins σ H s) : X.env.locals < s.heap.objs.size := let ⟨_, hn, _⟩ := I.loc; hn.lt
theorem Inv.sz (I : Inv X pins σ H s) : X.s₀.heap.objs.size ≤ s.heap.objs.size := Nat.le_trans I.ok.above (Nat.le_of_lt I.lt)
theorem Inv.nofs (I : Inv X pins σ H s) {a : Addr} (h : s.heap.objs.size ≤ a) : a ∉ X.fs := fun hb => by
  obtain ⟨_, o, ho, _⟩ := I.ok.funs.mem hb
  exact absurd (Nat.lt_of_lt_of_le (Heap.lt_size ho) (Nat.le_trans I.sz h)) (Nat.lt_irrefl _)
theorem Inv.cne (I : Inv X pins σ H s) : ∀ x c, X.env.cells.lookup x = some c → c ≠ X.env.locals := fun x c e z => by
  obtain ⟨v, o, ho, hd⟩ := I.cell x c e
  obtain ⟨m, ⟨o', es, ep, ho', hd', _⟩, _⟩ := I.loc
  rw [z, ho'] at ho; cases ho; rw [hd'] at hd; cases hd
theorem Inv.funs (I : Inv X pins σ H s) : s.heap.FunFrames X.base X.outer := by
  have all : ∀ (l : List Env), (∀ b ∈ frs l, b ∈ X.fs) → X.s₀.heap.FunFrames X.base l → s.heap.FunFrames X.base l := by
    intro l
    induction l with
    | nil => intro _ _; trivial
    | cons env r ih =>
      intro hs hl
      obtain ⟨hk, ⟨L, o, hf, hn, ho, hd⟩, hr⟩ := hl
      have hL : L ∈ X.fs := hs L (by unfold frs; rw [List.filterMap_cons, hf]; exact List.mem_cons_self)
      obtain ⟨sl, e⟩ := I.base.slot L o ho (I.ok.frf L hL) hL fun z => I.ok.exfs L z hL
      exact ⟨hk, ⟨L, _, hf, hn, e, hd⟩, ih (fun b hb => hs b (by unfold frs; rw [List.filterMap_cons, hf]; exact List.mem_cons_of_mem _ hb)) hr⟩
  exact all X.outer (fun _ hb => hb) I.ok.funs

theorem Inv.stack (I : Inv X pins σ H s) : s.heap.FunFrames X.base X.stack := by
  rcases I.ok.stk with e | ⟨e, hf⟩
  · rw [e]; exact I.funs
  · rw [e]
    obtain ⟨m, hn, _⟩ := I.loc
    refine .cons (by rw [I.ok.kind]; decide) hf hn ?_ I.funs
    exact Heap.get?_none_of_le (Nat.le_trans I.ok.bsz I.ok.above)
theorem Inv.stkSub (I : Inv X pins σ H s) : ∀ b ∈ frs X.stack, b ∈ X.env.locals :: X.fs := fun b hb => by
  rcases I.ok.stk with e | ⟨e, hf⟩
  · rw [e] at hb; exact List.mem_cons_of_mem _ hb
  · rw [e] at hb
    unfold frs at hb
    rw [List.filterMap_cons, hf] at hb
    exact hb
theorem Inv.stkFree (I : Inv X pins σ H s) : ∀ b ∈ frs X.stack, H b = none := fun b hb => by
  rcases List.mem_cons.mp (I.stkSub b hb) with e | hb
  · rw [e]; exact I.free
  · obtain ⟨_, o, ho, _⟩ := I.ok.funs.mem hb
    exact I.base.free b o ho (I.ok.frf b hb) fun z => I.ok.exfs b z hb

theorem Inv.step {g' : Array GenState} {t' : Nat} {d' : Drawn} {ch : List Addr} (I : Inv X pins σ H s)
    (hch : ∀ b ∈ ch, (b ∈ X.ex ∨ X.s₀.heap.objs.size ≤ b) ∧ b ≠ X.env.locals ∧ (∀ x c, X.env.cells.lookup x = some c → c ≠ b) ∧ ∀ p ∈ X.pn ++ pins, p.1 ≠ b)
    (keep : ∀ b o, b ≠ X.env.locals → b ∉ X.fs → b ∉ ch → s.heap.get? b = some o → H b = none → h'.get? b = some o)
    (slot : ∀ b o, b ≠ X.env.locals → b ∈ X.fs → b ∉ ch → s.heap.get? b = some o → H b = none → ∃ sl, h'.get? b = some { o with slots := sl }) (free : ∀ b o, b ∉ ch → s.heap.get? b = some o → H b = none → H' b = none)
    (there : ∀ b o, b ∉ ch → s.heap.get? b = some o → ∃ o', h'.get? b = some o')
    (tups : ∀ b xs, H b = some (.tup xs) → H' b = some (.tup xs)) (frzs : ∀ b o u, H b = some (.frz o u) → H' b = some (.frz o u)) (tbls : ∀ b ps, H b = some (.tbl ps) → ∃ more, H' b = some (.tbl (ps ++ more)))
    (ns : ∀ m, s.heap.Ns X.env.locals m → h'.Ns X.env.locals m) (hok : HOk X.prog X.w H' h') (hg : AllBare g') :
    Inv X pins σ H' { s with heap := h', gens := g', drawn := d', toks := t' } := by
  have neL : ∀ b o, X.s₀.heap.get? b = some o → b ≠ X.env.locals := fun b o e => Nat.ne_of_lt (Nat.lt_of_lt_of_le (Heap.lt_size e) I.ok.above)
  have neC : ∀ b o, X.s₀.heap.get? b = some o → b ∉ X.ex → b ∉ ch := fun b o e hx hb => by
    rcases (hch b hb).1 with z | z
    · exact hx z
    · exact absurd (Nat.lt_of_lt_of_le (Heap.lt_size e) z) (Nat.lt_irrefl _)
  have cellK : ∀ x c, X.env.cells.lookup x = some c → ∀ v, s.heap.IsCell c v → h'.IsCell c v := fun x c e v ⟨o, ho, hd⟩ => by
    have nch : c ∉ ch := fun z => (hch c z).2.2.1 x c e rfl
    by_cases hc : c ∈ X.fs
    · obtain ⟨sl, q⟩ := slot c o (I.cne x c e) hc nch ho (I.freeC x c e)
      exact ⟨_, q, hd⟩
    · exact ⟨o, keep c o (I.cne x c e) hc nch ho (I.freeC x c e), hd⟩
  refine ⟨I.ok, I.os, hg, ⟨fun b o e n hb hx => ?_, fun b o e n hb hx => ?_, fun b o e n hx => ?_, fun b o e hx => ?_, fun b xs e => tups b xs (I.base.tups b xs e), fun b o xs e => frzs b o xs (I.base.frzs b o xs e), fun b ps e => ?_⟩, ?_, fun x c e => ?_, ?_, fun x c e => ?_, fun p hp => ?_, hok, I.len⟩
  · exact keep b o (neL b o e) hb (neC b o e hx) (I.base.keep b o e n hb hx) (I.base.free b o e n hx)
  · obtain ⟨sl, e1⟩ := I.base.slot b o e n hb hx
    obtain ⟨sl', e2⟩ := slot b _ (neL b o e) hb (neC b o e hx) e1 (I.base.free b o e n hx)
    exact ⟨sl', e2⟩
  · obtain ⟨o', e1⟩ := I.base.there b o e hx
    exact free b o' (neC b o e hx) e1 (I.base.free b o e n hx)
  · obtain ⟨o', e1⟩ := I.base.there b o e hx
    exact there b o' (neC b o e hx) e1
  · obtain ⟨m1, e1⟩ := I.base.tbls b ps e
    obtain ⟨m2, e2⟩ := tbls b _ e1
    exact ⟨m1 ++ m2, by rw [e2, Array.append_assoc]⟩
  · obtain ⟨m, hn, hl⟩ := I.loc
    refine ⟨m, ns m hn, fun i x v e1 e2 e3 => ?_⟩
    obtain ⟨u, r, l⟩ := hl i x v e1 e2 e3
    refine ⟨u, r, ?_⟩
    rcases l with l | ⟨k, c, e, z⟩
    · exact .inl l
    · exact .inr ⟨k, c, e, cellK x c e _ z⟩
  · obtain ⟨v, z⟩ := I.cell x c e
    exact ⟨v, cellK x c e v z⟩
  · obtain ⟨m, ⟨o, _, _, ho, _⟩, _⟩ := I.loc
    exact free _ o (fun z => (hch _ z).2.1 rfl) ho I.free
  · obtain ⟨v, o, ho, hd⟩ := I.cell x c e
    exact free c o (fun z => (hch c z).2.2.1 x c e rfl) ho (I.freeC x c e)
  · obtain ⟨e, n, ne, nf, d⟩ := I.pin p hp
    have nch : p.1 ∉ ch := fun z => (hch p.1 z).2.2.2 p hp rfl
    exact ⟨keep p.1 p.2 ne nf nch e n, free p.1 p.2 nch e n, ne, nf, d⟩
theorem Inv.un {t' : Nat} (I : Inv X pins σ H s) (u : Un X.fs [] H H' s.heap h') (hok : HOk X.prog X.w H' h') : Inv X pins σ H' { s with heap := h', toks := t' } := by
  obtain ⟨m, ⟨o, es, ep, ho, r⟩, _⟩ := id I.loc
  obtain ⟨sl, hL⟩ := u.any ho I.free (by simp)
  exact I.step (g' := s.gens) (d' := s.drawn) (ch := []) (fun _ z => nomatch z) (fun b o _ hb _ e n => u.keep b o e n hb (by simp)) (fun b o _ hb _ e n => u.slot b o e n hb (by simp)) (fun b o _ e n => u.free b o e n (by simp)) (fun b o _ e => u.there b o e (by simp)) u.tups u.frzs u.tbls (fun m' hm => by
    obtain ⟨o', es', ep', ho', r'⟩ := hm
    rw [ho] at ho'; cases ho'
    exact ⟨_, es', ep', hL, r'⟩) hok I.bare
theorem Inv.call {g' : Array GenState} {t' : Nat} {d' : Drawn} {ch : List Addr} (I : Inv X pins σ H s) (u : Un (frs X.stack) ch H H' s.heap h') (hok : HOk X.prog X.w H' h') (hg : AllBare g')
    (hch : ∀ b ∈ ch, (b ∈ X.ex ∨ X.s₀.heap.objs.size ≤ b) ∧ b ≠ X.env.locals ∧ (∀ x c, X.env.cells.lookup x = some c → c ≠ b) ∧ ∀ p ∈ X.pn ++ pins, p.1 ≠ b) :
    Inv X pins σ H' { s with heap := h', gens := g', drawn := d', toks := t' } := by
  obtain ⟨m, ⟨o, es, ep, ho, r⟩, _⟩ := id I.loc
  obtain ⟨sl, hL⟩ := u.any ho I.free fun z => (hch _ z).2.1 rfl
  exact I.step (ch := ch) hch (fun b o hL hb hc e n => u.keep b o e n (fun z => (List.mem_cons.mp (I.stkSub b z)).elim hL hb) hc) (fun b o _ _ hc e n => u.any e n hc) (fun b o hc e n => u.free b o e n hc) (fun b o hc e => u.there b o e hc) u.tups u.frzs u.tbls (fun m' hm => by
    obtain ⟨o', es', ep', ho', r'⟩ := hm
    rw [ho] at ho'; cases ho'
    exact ⟨_, es', ep', hL, r'⟩) hok hg
theorem Inv.turned {t' : Nat} {it : Addr} (I : Inv X pins σ H s) (k : ∀ b o, b ≠ it → s.heap.get? b = some o → h'.get? b = some o) (hn : H it = none) (hL : it ≠ X.env.locals)
    (h1 : it ∈ X.ex ∨ X.s₀.heap.objs.size ≤ it) (h2 : ∀ x c, X.env.cells.lookup x = some c → c ≠ it) (h3 : ∀ p ∈ X.pn ++ pins, p.1 ≠ it) : Inv X pins σ H { s with heap := h', toks := t' } := by
  have nit : ∀ b u, H b = some u → b ≠ it := fun b u e z => by rw [z, hn] at e; cases e
  refine I.step (g' := s.gens) (d' := s.drawn) (ch := [it]) (fun b hb => ?_) (fun b o _ _ hc e _ => k b o (fun z => hc (by simp [z])) e) (fun b o _ _ hc e _ => ⟨o.slots, k b o (fun z => hc (by simp [z])) e⟩) (fun _ _ _ _ n => n)
    (fun b o hc e => ⟨o, k b o (fun z => hc (by simp [z])) e⟩) (fun _ _ e => e) (fun _ _ _ e => e) (fun b ps e => ⟨#[], by rw [e]; simp⟩) (fun m hm => ?_) (fun b u e => ?_) I.bare
  · have e : b = it := by simpa using hb
    subst e
    exact ⟨h1, hL, h2, h3⟩
  · obtain ⟨o, es, ep, ho, r⟩ := hm
    exact ⟨o, es, ep, k _ o (Ne.symm hL) ho, r⟩
  · refine (I.hok b u e).stay (fun c v hc q => k c v ?_ q) (fun _ q => q) fun _ _ q => q
    rcases hc with z | z
    · rw [z]; exact nit b u e
    · exact nit c _ z
theorem Inv.tok (I : Inv X pins σ H s) (t : Nat) : Inv X pins σ H { s with toks := t } := I.un (h' := s.heap) (t' := t) Un.refl I.hok
theorem Inv.kept {t' : Nat} (I : Inv X pins σ H s) (k : ∀ b u, s.heap.get? b = some u → h'.get? b = some u) : Inv X pins σ H { s with heap := h', toks := t' } := I.un (Un.kept k) (I.hok.kept k)
theorem Inv.laid {a : Addr} {o : HO} {t' : Nat} (I : Inv X pins σ H s) (k : ∀ b u, s.heap.get? b = some u → h'.get? b = some u) (hp : s.heap.objs.size ≤ a) (new : ObjOk X.prog X.w (upd H a o) h' a o) :
    Inv X pins σ (upd H a o) { s with heap := h', toks := t' } := I.un (Un.laid k hp (I.hok.fresh hp)) (I.hok.laid k hp new)
theorem Inv.write {x e : Addr} {o : HO} {t' : Nat} (I : Inv X pins σ H s) (mu : Mut (H x)) (he : e = x ∨ H e = some (.own x)) (k : ∀ b u, b ≠ e → s.heap.get? b = some u → h'.get? b = some u) (heo : ∃ u, h'.get? e = some u)
    (new : ObjOk X.prog X.w (upd H x o) h' x o) : Inv X pins σ (upd H x o) { s with heap := h', toks := t' } := I.un (Un.write mu he k heo) (I.hok.write mu he k heo new)
theorem Inv.weak {σ' : List (Option V)} (I : Inv X pins σ H s) (hl : σ'.length = σ.length) (w : ∀ (i : Nat) v, σ'[i]? = some (some v) → σ[i]? = some (some v)) : Inv X pins σ' H s :=
  ⟨I.ok, I.os, I.bare, I.base, let ⟨m, hn, hl'⟩ := I.loc; ⟨m, hn, fun i x v e1 e2 e3 => hl' i x v e1 (w i v e2) e3⟩, I.cell, I.free, I.freeC, I.pin, I.hok, hl.trans I.len⟩
theorem Inv.pins_of {pins' : List (Addr × Obj)} (I : Inv X pins σ H s) (h : ∀ p ∈ pins', s.heap.get? p.1 = some p.2 ∧ H p.1 = none ∧ p.1 ≠ X.env.locals ∧ p.1 ∉ X.fs ∧ ∀ v, p.2.data ≠ .cell v) : Inv X pins' σ H s :=
  ⟨I.ok, I.os, I.bare, I.base, I.loc, I.cell, I.free, I.freeC, fun p hp => (List.mem_append.mp hp).elim (fun z => I.pin p (List.mem_append_left _ z)) (h p), I.hok, I.len⟩

theorem nodup_ix {N : List Str} (hN : N.Nodup) {i j : Nat} {x : Str} (a : N[i]? = some x) (b : N[j]? = some x) : i = j := by
  obtain ⟨h1, e1⟩ := List.getElem?_eq_some_iff.mp a
  obtain ⟨h2, e2⟩ := List.getElem?_eq_some_iff.mp b
  exact (List.getElem_inj hN).mp (e1.trans e2.symm)

theorem store_ok2 {M : Model} {A : Around} {E : Value → Shared → Prop} {i : Nat} {x : Str} {v : V} {u : Value} {Q : Unit → Shared → Prop} (I : Inv X pins σ H s) (hN : X.N.Nodup) (hi : X.N[i]? = some x) (hx : Loc X.env.scope x) (r : RelV v u)
    (h : ∀ s', Inv X pins (σ.set i (some v)) H s' → (∃ a, Heap.SameBut a s.heap s'.heap ∧ (a = X.env.locals ∨ X.env.cells.lookup x = some a)) → Q () s') (hf : X.fn x = true ∨ X.env.scope.names.lookup x = some .local := by first | exact .inl rfl | exact .inr rfl | assumption) : wpAny M A (storeName X.env x u) Q E s := by
  obtain ⟨m, hn, hl⟩ := id I.loc
  have hcls : (X.env.scope.kind == .class || (X.env.scope.kind == .module && X.env.locals != X.env.globals)) = false := by rw [I.ok.kind]; rfl
  have hiσ : i < σ.length := by rw [I.len]; exact (List.getElem?_eq_some_iff.mp hi).1
  have cne := I.cne
  have tracked : ∀ {a : Addr} {h' : Heap}, (∃ o, s.heap.get? a = some o ∧ H a = none) → Heap.SameBut a s.heap h' → HOk X.prog X.w H h' := fun {a h'} ha hs b ob e => by
    obtain ⟨_, _, hfree⟩ := ha
    refine (I.hok b ob e).stay (fun c w' hc q => (hs.2 c ?_).trans q) (fun _ q => q) fun _ _ q => q
    rintro rfl
    rcases hc with rfl | hc
    · rw [hfree] at e; cases e
    · rw [hfree] at hc; cases hc
  rcases hx with hk | hk
  · refine wpAny_storeName_local hk hn (fun h' hn' hs => ?_) hcls
    obtain ⟨oL, _, _, hoL, _⟩ := id hn
    refine h _ ⟨I.ok, I.os, I.bare, ⟨fun b o e n hb hx => ?_, fun b o e n hb hx => ?_, I.base.free, fun b o e hx => ?_, I.base.tups, I.base.frzs, I.base.tbls⟩, ⟨_, hn', fun j y v' e1 e2 e3 => ?_⟩, fun y c e => ?_, I.free, I.freeC, fun p hp => ?_, tracked ⟨oL, hoL, I.free⟩ hs, by simpa using I.len⟩ ⟨_, hs, .inl rfl⟩
    · exact (hs.2 b (Nat.ne_of_lt (Nat.lt_of_lt_of_le (Heap.lt_size e) I.ok.above))).trans (I.base.keep b o e n hb hx)
    · obtain ⟨sl, e1⟩ := I.base.slot b o e n hb hx
      exact ⟨sl, (hs.2 b (Nat.ne_of_lt (Nat.lt_of_lt_of_le (Heap.lt_size e) I.ok.above))).trans e1⟩
    · obtain ⟨o', e1⟩ := I.base.there b o e hx
      exact ⟨o', (hs.2 b (Nat.ne_of_lt (Nat.lt_of_lt_of_le (Heap.lt_size e) I.ok.above))).trans e1⟩
    · by_cases hj : j = i
      · subst hj
        rw [hi] at e1; cases e1
        rw [List.getElem?_set_self hiσ] at e2
        cases e2
        exact ⟨u, r, .inl ⟨hk, by simp⟩⟩
      · rw [List.getElem?_set_ne (Ne.symm hj)] at e2
        obtain ⟨u', r', q⟩ := hl j y v' e1 e2 e3
        refine ⟨u', r', ?_⟩
        rcases q with ⟨k, e⟩ | ⟨k, c, e, z⟩
        · refine .inl ⟨k, ?_⟩
          have : y ≠ x := fun e => hj (nodup_ix hN e1 (e ▸ hi))
          simp [this, e]
        · exact .inr ⟨k, c, e, z.sameBut hs (cne y c e)⟩
    · obtain ⟨w', z⟩ := I.cell y c e
      exact ⟨w', z.sameBut hs (cne y c e)⟩
    · obtain ⟨e, n, ne, nf, d⟩ := I.pin p hp
      exact ⟨(hs.2 p.1 ne).trans e, n, ne, nf, d⟩
  · have hfn : X.fn x = true := by
      rcases hf with z | z
      · exact z
      · rw [z] at hk; cases hk
    obtain ⟨c, hc⟩ := I.ok.has x (.inl hk)
    obtain ⟨w', z⟩ := I.cell x c hc
    refine wpAny_storeName_cell I.ok.kind hk hc z (fun h' hc' hs => ?_)
    obtain ⟨oc, hoc, hocd⟩ := id z
    refine h { s with heap := h' } ⟨I.ok, I.os, I.bare, ⟨fun b o e n hb hx => ?_, fun b o e n hb hx => ?_, I.base.free, fun b o e hx => ?_, I.base.tups, I.base.frzs, I.base.tbls⟩, ⟨m, hn.sameBut hs (Ne.symm (cne x c hc)), fun j y v' e1 e2 e3 => ?_⟩, fun y c' e => ?_, I.free, I.freeC, fun p hp => ?_, tracked ⟨oc, hoc, I.freeC x c hc⟩ hs, by simpa using I.len⟩ ⟨c, hs, .inr hc⟩
    · exact (hs.2 b (Nat.ne_of_lt (Nat.lt_of_lt_of_le (Heap.lt_size e) (I.ok.cab x c hfn hc)))).trans (I.base.keep b o e n hb hx)
    · obtain ⟨sl, e1⟩ := I.base.slot b o e n hb hx
      exact ⟨sl, (hs.2 b (Nat.ne_of_lt (Nat.lt_of_lt_of_le (Heap.lt_size e) (I.ok.cab x c hfn hc)))).trans e1⟩
    · obtain ⟨o', e1⟩ := I.base.there b o e hx
      exact ⟨o', (hs.2 b (Nat.ne_of_lt (Nat.lt_of_lt_of_le (Heap.lt_size e) (I.ok.cab x c hfn hc)))).trans e1⟩
    · by_cases hj : j = i
      · subst hj
        rw [hi] at e1; cases e1
        rw [List.getElem?_set_self hiσ] at e2
        cases e2
        exact ⟨u, r, .inr ⟨.inl hk, c, hc, hc'⟩⟩
      · rw [List.getElem?_set_ne (Ne.symm hj)] at e2
        obtain ⟨u', r', q⟩ := hl j y v' e1 e2 e3
        refine ⟨u', r', ?_⟩
        rcases q with q | ⟨k, c', e, z'⟩
        · exact .inl q
        · refine .inr ⟨k, c', e, z'.sameBut hs ?_⟩
          rintro rfl
          exact hj (nodup_ix hN e1 (I.ok.inj _ _ _ e hc ▸ hi))
    · by_cases hcc : c' = c
      · subst hcc; exact ⟨_, hc'⟩
      · obtain ⟨w2, z2⟩ := I.cell y c' e
        exact ⟨w2, z2.sameBut hs hcc⟩
    · obtain ⟨e, n, ne, nf, d⟩ := I.pin p hp
      refine ⟨(hs.2 p.1 ?_).trans e, n, ne, nf, d⟩
      intro q
      rw [q, hoc] at e
      have q' : oc = p.2 := Option.some.inj e
      exact d w' (by rw [← q']; exact hocd)
theorem store_ok {M : Model} {A : Around} {E : Value → Shared → Prop} {i : Nat} {x : Str} {v : V} {u : Value} {Q : Unit → Shared → Prop} (I : Inv X pins σ H s) (hN : X.N.Nodup) (hi : X.N[i]? = some x) (hx : Loc X.env.scope x) (r : RelV v u)
    (h : ∀ s', Inv X pins (σ.set i (some v)) H s' → Q () s') (hf : X.fn x = true ∨ X.env.scope.names.lookup x = some .local := by first | exact .inl rfl | exact .inr rfl | assumption) : wpAny M A (storeName X.env x u) Q E s :=
  store_ok2 I hN hi hx r (fun s' I' _ => h s' I') hf
theorem Inv.call' {s' : Shared} {ch : List Addr} (I : Inv X pins σ H s) (ho : s'.os = s.os) (u : Un (frs X.stack) ch H H' s.heap s'.heap) (hok : HOk X.prog X.w H' s'.heap) (hg : AllBare s'.gens)
    (hch : ∀ b ∈ ch, (b ∈ X.ex ∨ X.s₀.heap.objs.size ≤ b) ∧ b ≠ X.env.locals ∧ (∀ x c, X.env.cells.lookup x = some c → c ≠ b) ∧ ∀ p ∈ X.pn ++ pins, p.1 ≠ b) : Inv X pins σ H' s' := by
  obtain ⟨h', g', d', t', o'⟩ := s'
  have e : o' = s.os := ho
  subst e
  exact I.call (g' := g') (t' := t') (d' := d') u hok hg hch
end

abbrev XK := Value → Option Addr → Hp → Prop
abbrev St := List (Option V)
abbrev VK := V → Hp → Prop
abbrev TE := St → Hp → VK → Prop
abbrev TT := St → Hp → (Bool → Hp → Prop) → Prop
abbrev TA := St → Hp → (List V → Hp → Prop) → Prop
structure Ends where
  nx : St → Hp → Prop
  rt : VK
  bk : St → Hp → Prop := fun _ _ => False
  ct : St → Hp → Prop := fun _ _ => False
abbrev TS := Ends → St → Hp → Prop

def EP (X : Cx) (pins : List (Addr × Obj)) (σ : St) (Q : VK) (u : Value) (s' : Shared) : Prop := ∃ v H', Inv X pins σ H' s' ∧ RelV v u ∧ Q v H'
def TP (X : Cx) (pins : List (Addr × Obj)) (σ : St) (Q : Bool → Hp → Prop) (b : Bool) (s' : Shared) : Prop := ∃ H', Inv X pins σ H' s' ∧ Q b H'
def AP (X : Cx) (pins : List (Addr × Obj)) (σ : St) (Q : List V → Hp → Prop) (us : List Value) (s' : Shared) : Prop := ∃ vs H', Inv X pins σ H' s' ∧ Vals vs us ∧ Q vs H'
def SP (X : Cx) (pins : List (Addr × Obj)) (D : Ends) (f : Flow) (s' : Shared) : Prop :=
  match f with
  | .next => ∃ σ' H', Inv X pins σ' H' s' ∧ D.nx σ' H'
  | .brk => ∃ σ' H', Inv X pins σ' H' s' ∧ D.bk σ' H'
  | .cont => ∃ σ' H', Inv X pins σ' H' s' ∧ D.ct σ' H'
  | .ret u => ∃ v σ' H', Inv X pins σ' H' s' ∧ RelV v u ∧ D.rt v H'

def PE (X : Cx) (e : Expr) (t : TE) : Prop :=
  ∀ (pins : List (Addr × Obj)) (s : Shared) (σ : St) (H : Hp) (Q : VK), Inv X pins σ H s → t σ H Q → wpAny (model X.prog X.w) X.A (eval e X.env) (EP X pins σ Q) X.xe s
def PT (X : Cx) (e : Expr) (t : TT) : Prop :=
  ∀ (pins : List (Addr × Obj)) (s : Shared) (σ : St) (H : Hp) (Q : Bool → Hp → Prop), Inv X pins σ H s → t σ H Q → wpAny (model X.prog X.w) X.A (isTrue e X.env (eval e X.env)) (TP X pins σ Q) X.xe s
def PW (X : Cx) (e : Expr) (t : TT) : Prop :=
  ∀ (whole : Sem Value) (pins : List (Addr × Obj)) (s : Shared) (σ : St) (H : Hp) (Q : Bool → Hp → Prop), Inv X pins σ H s → t σ H Q → wpAny (model X.prog X.w) X.A (isTrue e X.env whole) (TP X pins σ Q) X.xe s
theorem PW.pt {X : Cx} {e : Expr} {t : TT} (h : PW X e t) : PT X e t := h _
def PA (X : Cx) (es : List Expr) (t : TA) : Prop :=
  ∀ (pos : Pos) (pins : List (Addr × Obj)) (s : Shared) (σ : St) (H : Hp) (Q : List V → Hp → Prop), Inv X pins σ H s → t σ H Q → wpAny (model X.prog X.w) X.A (spliced (backTo pos (starEach es X.env))) (AP X pins σ Q) X.xe s
def PS (X : Cx) (st : Stmt) (t : TS) : Prop :=
  ∀ (pins : List (Addr × Obj)) (s : Shared) (σ : St) (H : Hp) (D : Ends), Inv X pins σ H s → t D σ H → wpAny (model X.prog X.w) X.A (exec st X.env) (SP X pins D) X.xe s
def PSs (X : Cx) (st : List Stmt) (t : TS) : Prop :=
  ∀ (pins : List (Addr × Obj)) (s : Shared) (σ : St) (H : Hp) (D : Ends), Inv X pins σ H s → t D σ H → wpAny (model X.prog X.w) X.A (execs st X.env) (SP X pins D) X.xe s
theorem thn {α : Type} {t : Sem α} {Q Q' : α → Shared → Prop} {M : Model} {A : Around} {E : Value → Shared → Prop} {s : Shared} (h : wpAny M A t Q E s) (hQ : ∀ a s, Q a s → Q' a s) : wpAny M A t Q' E s := wpAny_mono h hQ fun _ _ x => x
end L2

namespace L2
open PySem PySem.Spec PyProof.Rows
section
variable {X : Cx}

theorem bin {a b : Expr} {ta tb : TE} (ha : PE X a ta) (hb : PE X b tb) {pins : List (Addr × Obj)} {s : Shared} {σ : St} {H : Hp} {R : V → V → Hp → Prop} (I : Inv X pins σ H s) (h : ta σ H fun x H1 => tb σ H1 fun y H2 => R x y H2)
    {α : Type} {Q : α → Shared → Prop} {f : Value → Value → Sem α}
    (hf : ∀ v u s2 x y H2, Inv X pins σ H2 s2 → RelV x v → RelV y u → R x y H2 → wpAny (model X.prog X.w) X.A (f v u) Q X.xe s2) :
    wpAny (model X.prog X.w) X.A (eval a X.env) (fun v s₁ => wpAny (model X.prog X.w) X.A (eval b X.env) (fun u s₂ => wpAny (model X.prog X.w) X.A (f v u) Q X.xe s₂) X.xe s₁) X.xe s := by
  refine thn (ha pins s σ H _ I h) fun v s1 ⟨x, H1, I1, r1, q1⟩ => ?_
  refine thn (hb pins s1 σ H1 _ I1 q1) fun u s2 ⟨y, H2, I2, r2, q2⟩ => ?_
  exact hf v u s2 x y H2 I2 r1 r2 q2

def tVar (i : Nat) : TE := fun σ H Q => ∃ v, σ[i]? = some (some v) ∧ Q v H
def tC (v : V) : TE := fun _ H Q => Q v H
theorem pe_var {i : Nat} {x : Str} {pos : Pos} (hN : X.N[i]? = some x) (hv : Vis X.env.scope x) (hd : (x == ("__debug__" : Str)) = false := by decide) (hcd : (x == ("__classdict__" : Str)) = false := by decide) : PE X (.Name x pos) (tVar i) := by
  intro pins s σ H Q I h
  obtain ⟨v, e, h⟩ := h
  obtain ⟨m, hn, hl⟩ := I.loc
  obtain ⟨u, r, l⟩ := hl i x v hN e hv
  have fin : EP X pins σ Q u s := ⟨v, H, I, r, h⟩
  rcases l with ⟨hk, hm⟩ | ⟨hk, c, hc, hcell⟩
  · exact wpAny_Name (wpAny_loadName_local I.ok.kind hk hn hm fin) hd
  · rcases hk with hk | hk
    · exact wpAny_Name (wpAny_loadName_cell I.ok.kind hk hc hcell fin) hd
    · exact wpAny_Name (wpAny_loadName_free I.ok.kind hk hc hcell fin hcd) hd
theorem pe_int {i j pos} : PE X (.Constant (.int i) j pos) (tC (.int i)) := fun _ _ _ H _ I h => wpAny_Constant_int ⟨.int i, H, I.tok _, ⟨_, rfl⟩, h⟩
theorem pe_bl {b j pos} : PE X (.Constant (.bool b) j pos) (tC (.bl b)) := fun _ _ _ H _ I h => Constant_bool ⟨.bl b, H, I, rfl, h⟩
theorem pe_non {j pos} : PE X (.Constant .none j pos) (tC .non) := fun _ _ _ H _ I h => Constant_none ⟨.non, H, I, rfl, h⟩
theorem pe_str {x j pos} : PE X (.Constant (.str x) j pos) (tC (.str x)) := fun _ _ _ H _ I h => Calls.Constant_str ⟨.str x, H, I.tok _, ⟨_, rfl⟩, h⟩

def Gl (X : Cx) (x : Str) : Prop := X.env.kindOf x = some .globalImplicit
theorem ld_glob {E : Value → Shared → Prop} {pins : List (Addr × Obj)} {s : Shared} {σ : St} {H : Hp} {x : Str} {u : Value} {pos : Pos} {Q : Value → Shared → Prop} (I : Inv X pins σ H s) (hg : Gl X x) (hm : X.mg x = some u) (h : Q u s)
    (hd : (x == ("__debug__" : Str)) = false := by decide) : wpAny (model X.prog X.w) X.A (eval (.Name x pos) X.env) Q E s :=
  Calls.Name_function_global I.ok.kind hg (Calls.loadGlobal_global (by rw [I.ok.glob]; exact I.mod.glob.keeps I.bk) hm h) hd
theorem ld_blt {E : Value → Shared → Prop} {pins : List (Addr × Obj)} {s : Shared} {σ : St} {H : Hp} {x : Str} {u : Value} {pos : Pos} {Q : Value → Shared → Prop} (I : Inv X pins σ H s) (hg : Gl X x) (hm : X.mg x = none) (hv : bootBuiltins x = some u) (h : Q u s)
    (hn : x ≠ "__name__" := by decide) (hd : (x == ("__debug__" : Str)) = false := by decide) : wpAny (model X.prog X.w) X.A (eval (.Name x pos) X.env) Q E s := by
  obtain ⟨mb, h1, h2⟩ := I.mod.blt
  exact Calls.Name_function_global I.ok.kind hg (Calls.loadGlobal_builtin (by rw [I.ok.glob]; exact I.mod.glob.keeps I.bk) hm (by rw [I.ok.blt]; exact h1.keeps I.bk) ((h2 x hn).trans hv) h) hd
theorem pe_glob {x : Str} {v : V} {u : Value} {pos : Pos} (hg : Gl X x) (hm : X.mg x = some u) (r : RelV v u) (hd : (x == ("__debug__" : Str)) = false := by decide) : PE X (.Name x pos) (tC v) :=
  fun _ _ _ H _ I h => ld_glob I hg hm ⟨v, H, I, r, h⟩ hd
theorem pe_bltn {x : Str} {v : V} {u : Value} {pos : Pos} (hg : Gl X x) (hm : X.mg x = none) (hv : bootBuiltins x = some u) (r : RelV v u) (hn : x ≠ "__name__" := by decide) (hd : (x == ("__debug__" : Str)) = false := by decide) : PE X (.Name x pos) (tC v) :=
  fun _ _ _ H _ I h => ld_blt I hg hm hv ⟨v, H, I, r, h⟩ hn hd

def t2I (ta tb : TE) (k : Int → Int → Hp → Prop) : St → Hp → Prop := fun σ H => ta σ H fun x H1 => tb σ H1 fun y H2 => ∃ i j, x = .int i ∧ y = .int j ∧ k i j H2
def tAdd (ta tb : TE) : TE := fun σ H Q => t2I ta tb (fun i j H2 => Q (.int (i + j)) H2) σ H
def tSub (ta tb : TE) : TE := fun σ H Q => t2I ta tb (fun i j H2 => Q (.int (i - j)) H2) σ H
def tMul (ta tb : TE) : TE := fun σ H Q => t2I ta tb (fun i j H2 => (-(2 ^ 64) < i ∧ i < 2 ^ 64) ∧ Q (.int (i * j)) H2) σ H
variable {a b : Expr} {ta tb : TE} {pos : Pos}
def PC (X : Cx) (op : CmpOp) (a b : Expr) (t : TE) : Prop :=
  ∀ (pins : List (Addr × Obj)) (s : Shared) (σ : St) (H : Hp) (Q : VK), Inv X pins σ H s → t σ H Q →
    wpAny (model X.prog X.w) X.A (eval a X.env) (fun v s₁ => wpAny (model X.prog X.w) X.A (eval b X.env) (fun u s₂ => wpAny (model X.prog X.w) X.A (compareOp op v u) (EP X pins σ Q) X.xe s₂) X.xe s₁) X.xe s
def tCmp (p : Int → Int → Bool) (ta tb : TE) : TE := fun σ H Q => t2I ta tb (fun i j H2 => Q (.bl (p i j)) H2) σ H
abbrev tLt : TE → TE → TE := tCmp fun i j => decide (i < j)
abbrev tLe : TE → TE → TE := tCmp fun i j => decide (i ≤ j)
abbrev tGt : TE → TE → TE := tCmp fun i j => decide (j < i)
abbrev tGe : TE → TE → TE := tCmp fun i j => decide (j ≤ i)
abbrev tEqI : TE → TE → TE := tCmp fun i j => decide (i = j)
abbrev tNeI : TE → TE → TE := tCmp fun i j => !decide (i = j)
def tIsN (ta : TE) : TE := fun σ H Q => ta σ H fun x H1 => Q (.bl (decide (x = .non))) H1
def tNotN (ta : TE) : TE := fun σ H Q => ta σ H fun x H1 => Q (.bl (!decide (x = .non))) H1
def tB (t : TE) : TT := fun σ H Q => t σ H fun x H1 => ∃ c, x = .bl c ∧ Q c H1
variable {tA tB' : TT} {rest : List Expr}
def tAnd (t u : TT) : TT := fun σ H Q => t σ H fun c H1 => if c = true then u σ H1 Q else Q false H1
def tOr (t u : TT) : TT := fun σ H Q => t σ H fun c H1 => if c = true then Q true H1 else u σ H1 Q
def tNot (t : TT) : TT := fun σ H Q => t σ H fun c H1 => Q (!c) H1
theorem pw_and1 (ha : PT X a tA) : PW X (.BoolOp .And [a] pos) tA := by
  intro wh pins s σ H Q I h
  refine isTrue_and (thn (ha pins s σ H Q I h) fun c s1 e => ?_)
  cases c with
  | true => exact isTrue_and_nil e
  | false => exact e
theorem pw_or1 (ha : PT X a tA) : PW X (.BoolOp .Or [a] pos) tA := by
  intro wh pins s σ H Q I h
  refine isTrue_or (thn (ha pins s σ H Q I h) fun c s1 e => ?_)
  cases c with
  | false => exact isTrue_or_nil e
  | true => exact e
theorem pw_and (ha : PT X a tA) (hb : PW X (.BoolOp .And (b :: rest) pos) tB') : PW X (.BoolOp .And (a :: b :: rest) pos) (tAnd tA tB') := by
  intro wh pins s σ H Q I h
  refine isTrue_and (thn (ha pins s σ H _ I h) fun c s1 ⟨H1, I1, q1⟩ => ?_)
  cases c with
  | true => exact hb wh pins s1 σ H1 Q I1 q1
  | false => exact ⟨H1, I1, q1⟩
theorem pw_or (ha : PT X a tA) (hb : PW X (.BoolOp .Or (b :: rest) pos) tB') : PW X (.BoolOp .Or (a :: b :: rest) pos) (tOr tA tB') := by
  intro wh pins s σ H Q I h
  refine isTrue_or (thn (ha pins s σ H _ I h) fun c s1 ⟨H1, I1, q1⟩ => ?_)
  cases c with
  | true => exact ⟨H1, I1, q1⟩
  | false => exact hb wh pins s1 σ H1 Q I1 q1
theorem pt_not (ha : PT X a tA) : PT X (.UnaryOp .Not a pos) (tNot tA) := by
  intro pins s σ H Q I h
  exact isTrue_not (ha pins s σ H (fun c H1 => Q (!c) H1) I h)
def tAndV (ta tb : TE) : TE := fun σ H Q => ta σ H fun x H1 => ∃ c, x = .bl c ∧ if c = true then tb σ H1 Q else Q (.bl false) H1
def tOrV (ta tb : TE) : TE := fun σ H Q => ta σ H fun x H1 => ∃ c, x = .bl c ∧ if c = true then Q (.bl true) H1 else tb σ H1 Q
def tNotV (ta : TE) : TE := fun σ H Q => ta σ H fun x H1 => ∃ c, x = .bl c ∧ Q (.bl (!c)) H1
theorem pe_one {op} {t : TE} (h : PE X a t) : PE X (.BoolOp op [a] pos) t := fun pins s σ H Q I hw => BoolOp_one (h pins s σ H Q I hw)
theorem pe_and (ha : PE X a ta) (hb : PE X (.BoolOp .And (b :: rest) pos) tb) : PE X (.BoolOp .And (a :: b :: rest) pos) (tAndV ta tb) := by
  intro pins s σ H Q I h
  refine BoolOp_and (thn (ha pins s σ H _ I h) fun v s1 ⟨x, H1, I1, r1, q1⟩ => ?_)
  obtain ⟨c, rfl, q1⟩ := q1
  cases r1
  refine wpAny_truthy_bool ?_
  cases c with
  | true => exact hb pins s1 σ H1 Q I1 q1
  | false => exact ⟨.bl false, H1, I1, rfl, q1⟩
theorem pe_not (ha : PE X a ta) : PE X (.UnaryOp .Not a pos) (tNotV ta) := by
  intro pins s σ H Q I h
  refine UnaryOp_ (thn (ha pins s σ H _ I h) fun v s1 ⟨x, H1, I1, r1, q1⟩ => ?_)
  obtain ⟨c, rfl, q1⟩ := q1
  cases r1
  exact not_of (wpAny_truthy_bool ⟨.bl (!c), H1, I1, rfl, q1⟩)
def tIf (t : TT) (ta tb : TE) : TE := fun σ H Q => t σ H fun c H1 => if c = true then ta σ H1 Q else tb σ H1 Q
end
end L2

namespace L2
open PySem PySem.Spec PyProof.Rows

def SqL (K : PySem.W.Frag) (H : Hp) (a : Addr) (xs : List V) : Prop :=
  Rd H a (.lst xs) ∨
    ∃ (o : Obj) (its : Array Value) (n : Nat), K.lookup a = some o ∧ o.cls = .type "list" ∧ o.dict = none ∧ o.data = .seq its n ∧ its.size ≤ sizeLine ∧ Vals xs its.toList
def SqT (K : PySem.W.Frag) (H : Hp) (a : Addr) (xs : List V) : Prop :=
  Rd H a (.tup xs) ∨
    ∃ (o : Obj) (its : Array Value) (n : Nat), K.lookup a = some o ∧ o.cls = .type "tuple" ∧ o.data = .seq its n ∧ its.size ≤ sizeLine ∧ Vals xs its.toList
def absV : Value → Option V
  | .none => some .non
  | .bool b => some (.bl b)
  | .int i _ => some (.int i)
  | .str x _ => some (.str x)
  | .bytes b _ => some (.byt b)
  | .float b _ => some (.flt b)
  | .ref a => some (.ref a)
  | .type n => some (.ty n)
  | _ => none
theorem RelV.abs {x : V} {u : Value} (r : RelV x u) : absV u = some x := by
  cases x with
  | non => cases r; rfl
  | bl _ => cases r; rfl
  | int _ => obtain ⟨t, rfl⟩ := r; rfl
  | str _ => obtain ⟨t, rfl⟩ := r; rfl
  | byt _ => obtain ⟨t, rfl⟩ := r; rfl
  | flt _ => obtain ⟨t, rfl⟩ := r; rfl
  | ref _ => cases r; rfl
  | ty _ => cases r; rfl
theorem RelV.inj {x y : V} {u : Value} (r : RelV x u) (q : RelV y u) : x = y := Option.some.inj (r.abs.symm.trans q.abs)
theorem Vals.inj : ∀ {xs ys : List V} {us : List Value}, Vals xs us → Vals ys us → xs = ys
  | _, _, _, .nil, .nil => rfl
  | _, _, _, .cons r t, .cons r' t' => by rw [r.inj r', Vals.inj t t']
section
variable {X : Cx} {pins : List (Addr × Obj)} {σ : St} {H : Hp} {s : Shared} {a : Addr} {xs ys : List V}
theorem SqL.of {K : PySem.W.Frag} (h : H a = some (.lst xs)) : SqL K H a xs := .inl (.inl h)
theorem SqT.of {K : PySem.W.Frag} (h : H a = some (.tup xs)) : SqT K H a xs := .inl (.inl h)
theorem Inv.list (I : Inv X pins σ H s) (h : SqL X.K H a xs) : ∃ its : List Value, Vals xs its ∧ PlainL s.heap a its.toArray ∧ xs.length ≤ sizeLine := by
  rcases h with h | ⟨o, its, n, hk, hc, hd, hs, hz, r⟩
  · obtain ⟨z, its, n, r, e⟩ := h.ok I.hok
    exact ⟨its, r, ⟨_, n, e, rfl, rfl, rfl⟩, z⟩
  · refine ⟨its.toList, r, ⟨o, n, I.kIn a o hk, hc, hd, by simpa using hs⟩, ?_⟩
    have e := r.length
    simp only [Array.length_toList] at e
    omega
theorem Inv.tuple (I : Inv X pins σ H s) (h : SqT X.K H a xs) : ∃ its : List Value, Vals xs its ∧ IsTup s.heap a its.toArray ∧ xs.length ≤ sizeLine := by
  rcases h with h | ⟨o, its, n, hk, hc, hs, hz, r⟩
  · obtain ⟨z, its, r, p⟩ := h.ok I.hok
    exact ⟨its, r, p, z⟩
  · refine ⟨its.toList, r, ⟨o, I.kIn a o hk, hc, n, by simpa using hs⟩, ?_⟩
    have e := r.length
    simp only [Array.length_toList] at e
    omega
theorem Inv.list_inj (I : Inv X pins σ H s) (h : SqL X.K H a xs) (h' : SqL X.K H a ys) : xs = ys := by
  obtain ⟨its, r, ⟨o, n, e, _, _, d⟩, _⟩ := I.list h
  obtain ⟨its', r', ⟨o', n', e', _, _, d'⟩, _⟩ := I.list h'
  rw [e] at e'; cases e'
  rw [d] at d'
  injection d' with d1 _
  have : its = its' := by simpa using congrArg Array.toList d1
  subst this
  exact r.inj r'
end

abbrev Cx.wish (X : Cx) (E : Value → Shared → Prop) : Cx := { X with xe := E }
abbrev Cx.nox (X : Cx) : Cx := X.wish fun _ _ => False
theorem Cx.Ok.wish {X : Cx} (ok : X.Ok) (E : Value → Shared → Prop) : (X.wish E).Ok :=
  ⟨ok.mod, ok.kind, ok.glob, ok.blt, ok.above, ok.inj, ok.has, ok.cab, ok.hd, ok.frames, ok.stk, ok.exf, ok.bs, ok.bsz, ok.noex, ok.exfs, ok.funs, ok.frf⟩
theorem Cx.Ok.unwish {X : Cx} {E : Value → Shared → Prop} (ok : (X.wish E).Ok) : X.Ok :=
  ⟨ok.mod, ok.kind, ok.glob, ok.blt, ok.above, ok.inj, ok.has, ok.cab, ok.hd, ok.frames, ok.stk, ok.exf, ok.bs, ok.bsz, ok.noex, ok.exfs, ok.funs, ok.frf⟩
section
variable {X : Cx} {pins : List (Addr × Obj)} {σ : St} {H : Hp} {s : Shared} {E : Value → Shared → Prop}
theorem Inv.wish (I : Inv X pins σ H s) (E : Value → Shared → Prop) : Inv (X.wish E) pins σ H s := ⟨I.ok.wish E, I.os, I.bare, I.base, I.loc, I.cell, I.free, I.freeC, I.pin, I.hok, I.len⟩
theorem Inv.unwish (I : Inv (X.wish E) pins σ H s) : Inv X pins σ H s := ⟨I.ok.unwish, I.os, I.bare, I.base, I.loc, I.cell, I.free, I.freeC, I.pin, I.hok, I.len⟩
theorem SP.unwish {D : Ends} {f : Flow} {s' : Shared} (h : SP (X.wish E) pins D f s') : SP X pins D f s' := by
  cases f with
  | next => obtain ⟨σ', H', I, q⟩ := h; exact ⟨σ', H', I.unwish, q⟩
  | brk => obtain ⟨σ', H', I, q⟩ := h; exact ⟨σ', H', I.unwish, q⟩
  | cont => obtain ⟨σ', H', I, q⟩ := h; exact ⟨σ', H', I.unwish, q⟩
  | ret u => obtain ⟨v, σ', H', I, r, q⟩ := h; exact ⟨v, σ', H', I.unwish, r, q⟩
theorem PSs.nox {st : List Stmt} {t : TS} (h : PSs X.nox st t) : PSs X st t := fun pins s σ H D I hw =>
  wpAny_mono (h pins s σ H D (I.wish _) hw) (fun _ _ q => q.unwish) fun _ _ z => False.elim z
end

section
variable {X : Cx} {st : Stmt} {rest : List Stmt} {t u : TS} {e : Expr} {te : TE} {pos : Pos}
def tNext : TS := fun D σ H => D.nx σ H
def tSeq (t u : TS) : TS := fun D σ H => t { D with nx := u D } σ H
theorem pss_nil : PSs X [] tNext := fun _ _ σ H _ I h => wpAny_execs_nil ⟨σ, H, I, h⟩
theorem pss_one (h1 : PS X st t) : PSs X [st] t := by
  intro pins s σ H D I h
  refine wpAny_execs_cons (thn (h1 pins s σ H D I h) fun f s1 q => ?_)
  cases f with
  | next => exact wpAny_execs_nil q
  | ret v => exact q
  | brk => exact q
  | cont => exact q
def tBreak : TS := fun D σ H => D.bk σ H
def tCont : TS := fun D σ H => D.ct σ H
theorem Inv.quiet {pins : List (Addr × Obj)} {σ : St} {H : Hp} {s : Shared} (I : Inv X pins σ H s) : interactive X.env = false := by simp [interactive, I.ok.kind]
def tDrop (te : TE) : TS := fun D σ H => te σ H fun _ H1 => D.nx σ H1
theorem ps_expr (he : PE X e te) (hs : swapsWith e none pos.line X.env = pure false := by rfl) : PS X (.Expr e pos) (tDrop te) := by
  intro pins s σ H D I h
  exact wpAny_Expr_any (thn (he pins s σ H _ I h) fun v s1 ⟨x, H1, I1, r1, q1⟩ => ⟨σ, H1, I1, q1⟩) I.quiet hs
def tRet (te : TE) : TS := fun D σ H => te σ H D.rt
theorem ps_ret (he : PE X e te) : PS X (.Return (some e) pos) (tRet te) := by
  intro pins s σ H D I h
  exact wpAny_Return_some (thn (he pins s σ H _ I h) fun v s1 ⟨x, H1, I1, r1, q1⟩ => ⟨x, σ, H1, I1, r1, q1⟩)
def tRetN : TS := fun D _ H => D.rt .non H
def tIfS (c : TT) (t u : TS) : TS := fun D σ H => c σ H fun b H1 => if b = true then t D σ H1 else u D σ H1
theorem ps_if {c : Expr} {a b : List Stmt} {tc : TT} (hc : PT X c tc) (ha : PSs X a t) (hb : PSs X b u) : PS X (.If c a b pos) (tIfS tc t u) := by
  intro pins s σ H D I h
  refine wpAny_If (thn (hc pins s σ H _ I h) fun d s1 ⟨H1, I1, q1⟩ => ?_)
  cases d with
  | true => exact ha pins s1 σ H1 D I1 q1
  | false => exact hb pins s1 σ H1 D I1 q1
def tNever : TS := fun _ _ _ => False
end

abbrev TG := V → St → Hp → (St → Hp → Prop) → Prop
abbrev TGs := List V → St → Hp → (St → Hp → Prop) → Prop
def PG (X : Cx) (target : Expr) (t : TG) : Prop :=
  ∀ (pins : List (Addr × Obj)) (s : Shared) (σ : St) (H : Hp) (v : V) (u : Value) (Q : St → Hp → Prop), Inv X pins σ H s → RelV v u → t v σ H Q →
    wpAny (model X.prog X.w) X.A (assign target X.env u) (fun _ s' => ∃ σ' H', Inv X pins σ' H' s' ∧ Q σ' H') X.xe s
def PGs (X : Cx) (ts : List Expr) (t : TGs) : Prop :=
  ∀ (pins : List (Addr × Obj)) (s : Shared) (σ : St) (H : Hp) (vs : List V) (us : List Value) (Q : St → Hp → Prop), Inv X pins σ H s → Vals vs us → t vs σ H Q →
    wpAny (model X.prog X.w) X.A (assignInOrder ((assignEach ts X.env).map (·.2)) us) (fun _ s' => ∃ σ' H', Inv X pins σ' H' s' ∧ Q σ' H') X.xe s
abbrev TSet := V → V → V → Hp → (Hp → Prop) → Prop
def PSet (X : Cx) (t : TSet) : Prop :=
  ∀ (pins : List (Addr × Obj)) (s : Shared) (σ : St) (H : Hp) (o i v : V) (ov iv u : Value) (Q : Hp → Prop), Inv X pins σ H s → RelV o ov → RelV i iv → RelV v u → t o i v H Q →
    wpAny (model X.prog X.w) X.A (setItem ov iv u) (fun _ s' => ∃ H', Inv X pins σ H' s' ∧ Q H') X.xe s
abbrev TIp := V → V → Hp → VK → Prop
def PIp (X : Cx) (op : Operator) (t : TIp) : Prop :=
  ∀ (pins : List (Addr × Obj)) (s : Shared) (σ : St) (H : Hp) (x y : V) (v u : Value) (Q : VK), Inv X pins σ H s → RelV x v → RelV y u → t x y H Q →
    wpAny (model X.prog X.w) X.A (inplaceOp op v u) (EP X pins σ Q) X.xe s
section
variable {X : Cx} {pos : Pos}
def gName (i : Nat) : TG := fun v σ H Q => Q (σ.set i (some v)) H
theorem pg_name {i : Nat} {x : Str} (hN : X.N.Nodup) (hi : X.N[i]? = some x) (hx : Loc X.env.scope x) (hf : X.fn x = true ∨ X.env.scope.names.lookup x = some .local := by first | exact .inl rfl | exact .inr rfl | assumption) : PG X (.Name x pos) (gName i) := by
  intro pins s σ H v u Q I r h
  exact wpAny_assign_Name (store_ok I hN hi hx r (fun s' I' => ⟨_, H, I', h⟩) hf)
def gNil : TGs := fun vs σ H Q => vs = [] ∧ Q σ H
def gCons (t : TG) (u : TGs) : TGs := fun vs σ H Q => ∃ v r, vs = v :: r ∧ t v σ H fun σ' H' => u r σ' H' Q
def gTup (K : PySem.W.Frag) (n : Nat) (t : TGs) : TG := fun v σ H Q => ∃ a xs, v = .ref a ∧ SqT K H a xs ∧ xs.length = n ∧ t xs σ H Q
def gSub (to ti : TE) (t : TSet) : TG := fun v σ H Q => to σ H fun o H1 => ti σ H1 fun i H2 => t o i v H2 fun H3 => Q σ H3
def tAsg (te : TE) (g : TG) : TS := fun D σ H => te σ H fun x H1 => g x σ H1 D.nx
theorem ps_set {i : Nat} {x : Str} {e : Expr} {te : TE} {pos' : Pos} (hN : X.N.Nodup) (hi : X.N[i]? = some x) (hx : Loc X.env.scope x) (he : PE X e te) (hs : swapsWith e (some (.Name x pos')) pos.line X.env = pure false := by rfl) (hf : X.fn x = true ∨ X.env.scope.names.lookup x = some .local := by first | exact .inl rfl | exact .inr rfl | assumption) :
    PS X (.Assign [.Name x pos'] e pos) (tAsg te (gName i)) := by
  intro pins s σ H D I h
  refine wpAny_Assign_Name (thn (he pins s σ H _ I h) fun v s1 ⟨y, H1, I1, r1, q1⟩ => ?_) hs
  exact store_ok I1 hN hi hx r1 (fun s2 I2 => ⟨_, H1, I2, q1⟩) hf
def tPar (i j : Nat) (ta : TA) : TS := fun D σ H => ta σ H fun vs H1 => ∃ v w, vs = [v, w] ∧ D.nx ((σ.set i (some v)).set j (some w)) H1
def tAug (i : Nat) (te : TE) (ti : TIp) : TS := fun D σ H => ∃ x, σ[i]? = some (some x) ∧ te σ H fun y H1 => ti x y H1 fun z H2 => D.nx (σ.set i (some z)) H2
def tAugS (to ti te : TE) (tget : V → V → Hp → VK → Prop) (tip : TIp) (tset : TSet) : TS := fun D σ H => to σ H fun o H1 => ti σ H1 fun i H2 => tget o i H2 fun x H3 => te σ H3 fun y H4 => tip x y H4 fun z H5 => tset o i z H5 fun H6 => D.nx σ H6
def PGet (X : Cx) (t : V → V → Hp → VK → Prop) : Prop :=
  ∀ (pins : List (Addr × Obj)) (s : Shared) (σ : St) (H : Hp) (o i : V) (ov iv : Value) (Q : VK), Inv X pins σ H s → RelV o ov → RelV i iv → t o i H Q →
    wpAny (model X.prog X.w) X.A (getItem ov iv) (EP X pins σ Q) X.xe s
def ipI (f : Int → Int → Int) : TIp := fun x y H Q => ∃ i j, x = .int i ∧ y = .int j ∧ Q (.int (f i j)) H
end

section
variable {X : Cx} {pos : Pos}
def tWhile (c : TT) (tb : TS) : TS := fun D σ H => ∃ W : Nat → St → Hp → Prop, (∃ m, W m σ H) ∧ ∀ m σ H, W m σ H →
  c σ H fun b H1 => if b = true then ∃ N : St → Hp → Prop, (∀ σ' H', N σ' H' → ∃ m', m' < m ∧ W m' σ' H') ∧ tb { D with nx := N, ct := N, bk := D.nx } σ H1 else D.nx σ H1
end

structure It where
  go : Nat → Hp → Prop
  yld : Nat → Hp → V → Hp → Prop
  stop : Nat → Hp → Prop
def FpOk (X : Cx) (pins : List (Addr × Obj)) (H : Hp) (b : Addr) : Prop :=
  H b = none ∧ b ≠ X.env.locals ∧ b ∉ X.fs ∧ (b ∈ X.ex ∨ X.s₀.heap.objs.size ≤ b) ∧ (∀ x c, X.env.cells.lookup x = some c → c ≠ b) ∧ ∀ p ∈ X.pn ++ pins, p.1 ≠ b
theorem Inv.fpOk {X : Cx} {pins : List (Addr × Obj)} {σ : St} {H H' : Hp} {s : Shared} {b : Addr} (I : Inv X pins σ H s) (hb : s.heap.objs.size ≤ b) (hn : H' b = none) : FpOk X pins H' b := by
  refine ⟨hn, Nat.ne_of_gt (Nat.lt_of_lt_of_le I.lt hb), I.nofs hb, .inr (Nat.le_trans I.sz hb), fun x c e z => ?_, fun p hp z => ?_⟩
  · obtain ⟨v, q⟩ := I.cell x c e
    exact absurd (Nat.lt_of_lt_of_le q.lt (by rw [z]; exact hb)) (Nat.lt_irrefl _)
  · exact absurd (Nat.lt_of_lt_of_le (Heap.lt_size (I.pin p hp).1) (by rw [z]; exact hb)) (Nat.lt_irrefl _)
structure Turn (P : Program) (w : World) (K : PySem.W.Frag) (tg : Expr) (J : It) (fp : List Addr) (it : Addr) (tn : Nat → Heap → Prop) : Prop where
  mem : it ∈ fp
  obj : ∀ i h, tn i h → ∀ b ∈ fp, ∃ o, h.get? b = some o ∧ ∀ v, o.data ≠ .cell v
  keep : ∀ i h h', tn i h → (∀ b ∈ fp, ∀ o, h.get? b = some o → h'.get? b = some o) → tn i h'
  item : ∀ (X : Cx), X.prog = P → X.w = w → X.K = K → X.calm = true → ∀ (i : Nat) (pins : List (Addr × Obj)) (s : Shared) (σ : St) (H : Hp) (E : Value → Shared → Prop), Inv X pins σ H s → (∀ b ∈ fp, FpOk X pins H b) → tn i s.heap → J.go i H →
    wpAny (model P w) X.A (pyNext (.ref it)) (fun r s1 => ∃ u, r = some u ∧
      wpAny (model P w) X.A (letOwnedTupleGo tg (.ref it) u) (fun _ s2 => ∃ x H', Inv X pins σ H' s2 ∧ RelV x u ∧ J.yld i H x H' ∧ tn (i + 1) s2.heap ∧ ∀ b ∈ fp, H' b = none) E s1) E s
  done : ∀ (X : Cx), X.prog = P → X.w = w → X.K = K → X.calm = true → ∀ (i : Nat) (pins : List (Addr × Obj)) (s : Shared) (σ : St) (H : Hp) (E : Value → Shared → Prop), Inv X pins σ H s → (∀ b ∈ fp, FpOk X pins H b) → tn i s.heap → J.stop i H →
    wpAny (model P w) X.A (pyNext (.ref it)) (fun r s1 => r = none ∧ Inv X pins σ H s1) E s
  self : ∀ (A : Around) (i : Nat) (s : Shared) (Q : Value → Shared → Prop) (E : Value → Shared → Prop), tn i s.heap → Q (.ref it) s → wpAny (model P w) A (pyIter (.ref it)) Q E s
abbrev TI := St → Hp → (It → Hp → Prop) → Prop
def PIE (X : Cx) (pins : List (Addr × Obj)) (σ : St) (tg : Expr) (R : It → Hp → Prop) (itv : Value) (s2 : Shared) : Prop :=
  ∃ (it : Addr) (fp : List Addr) (tn : Nat → Heap → Prop) (J : It) (H' : Hp), itv = .ref it ∧ Inv X pins σ H' s2 ∧ Turn X.prog X.w X.K tg J fp it tn ∧ tn 0 s2.heap ∧ (∀ b ∈ fp, FpOk X pins H' b) ∧ R J H'
def PI (X : Cx) (tg iter : Expr) (wi : TI) : Prop :=
  ∀ (pins : List (Addr × Obj)) (s : Shared) (σ : St) (H : Hp) (R : It → Hp → Prop), Inv X pins σ H s → wi σ H R →
    wpAny (model X.prog X.w) X.A (eval iter X.env) (fun v s1 => wpAny (model X.prog X.w) X.A (pyIter v) (PIE X pins σ tg R) X.xe s1) X.xe s

theorem go_of {M : Model} {A : Around} {E : Value → Shared → Prop} {s : Shared} {tg : Expr} {it : Addr} {u : Value} {o : Obj} {n : String} {vs : Array Value} {Q : Unit → Shared → Prop} (ho : s.heap.get? it = some o) (hc : o.cls = .type n) (hd : o.data = .fields vs)
    (hn : ["enumerate", "zip", "dict_itemiterator", "dict_reverseitemiterator", "odict_iterator", "itertools.zip_longest", "itertools.pairwise"].contains n = false) (hQ : Q () s) : wpAny M A (letOwnedTupleGo tg (.ref it) u) Q E s := by
  unfold letOwnedTupleGo
  cases tg <;> first
    | exact wpAny_pure hQ
    | (cases u <;> first
        | exact wpAny_pure hQ
        | (refine wpAny_bind (wpAny_load ho ?_)
           rw [hc, hd]
           show wpAny M A (if (["enumerate", "zip", "dict_itemiterator", "dict_reverseitemiterator", "odict_iterator", "itertools.zip_longest", "itertools.pairwise"].contains n && vs[0]? == some (rawInt _)) = true then _ else _) Q E s
           rw [if_neg (by intro h; rw [hn, Bool.false_and] at h; cases h)]
           exact wpAny_pure hQ))

def Itl (K : PySem.W.Frag) (a : Addr) : It :=
  ⟨fun i H => ∃ xs x, SqL K H a xs ∧ xs[i]? = some x, fun i H x H' => H' = H ∧ ∀ xs, SqL K H a xs → xs[i]? = some x, fun i H => ∃ xs, SqL K H a xs ∧ xs.length ≤ i⟩
def Itt (K : PySem.W.Frag) (a : Addr) : It :=
  ⟨fun i H => ∃ xs x, SqT K H a xs ∧ xs[i]? = some x, fun i H x H' => H' = H ∧ ∀ xs, SqT K H a xs → xs[i]? = some x, fun i H => ∃ xs, SqT K H a xs ∧ xs.length ≤ i⟩
def Itr (lo : Int) (n : Nat) : It := ⟨fun i _ => i < n, fun i H x H' => H' = H ∧ x = .int (lo + i), fun i _ => n ≤ i⟩
theorem turn_list {P : Program} {w : World} {K : PySem.W.Frag} {tg : Expr} (a it : Addr) : Turn P w K tg (Itl K a) [it] it (fun i h => h.IsListIter it a i) where
  mem := by simp
  obj := fun i h st b hb => by
    have e : b = it := by simpa using hb
    subst e
    obtain ⟨o, e, c, d⟩ := st
    exact ⟨o, e, fun v z => by rw [d] at z; cases z⟩
  keep := fun i h h' st k => st.at fun o e => k it (by simp) o e
  item := by
    intro X hP hw hK hc i pins s σ H E I hf st hg
    subst hP hw hK
    obtain ⟨xs, x, hq, hx⟩ := hg
    obtain ⟨its, rv, p, hz⟩ := I.list hq
    obtain ⟨u, hu, ru⟩ := rv.get hx
    obtain ⟨f0, f1, f2, f3, f4, f5⟩ := hf it (by simp)
    refine wpAny_pyNext_list_item st p.isList (x := u) (by simpa using hu) fun h' st' sb => ?_
    have I1 : Inv X pins σ H { s with heap := h' } := I.turned (t' := s.toks) (fun b o hb e => (sb.2 b hb).trans e) f0 f1 f3 f4 f5
    obtain ⟨o, e, c, d⟩ := id st'
    exact ⟨u, rfl, go_of (s := { s with heap := h' }) e c d (by decide) ⟨x, H, I1, ru, ⟨rfl, fun ys hy => by rw [I.list_inj hy hq]; exact hx⟩, st', fun b hb => (hf b hb).1⟩⟩
  done := by
    intro X hP hw hK hc i pins s σ H E I hf st hg
    subst hP hw hK
    obtain ⟨xs, hq, hx⟩ := hg
    obtain ⟨its, rv, p, hz⟩ := I.list hq
    obtain ⟨f0, f1, f2, f3, f4, f5⟩ := hf it (by simp)
    have hl := rv.length
    exact wpAny_pyNext_list_end (I.ok.hd hc) st p.isList (by simp; omega) fun h' eb => ⟨rfl, I.turned (t' := s.toks) (fun b o hb e => eb b o hb e) f0 f1 f3 f4 f5⟩
  self := fun _ _ _ _ _ st h => wpAny_pyIter_listiter st h
end L2

namespace L2
open PySem PySem.Spec PyProof.Rows
section
variable {X : Cx} {tg : Expr}
def iList (K : PySem.W.Frag) (tl : TE) : TI := fun σ H R => tl σ H fun x H1 => ∃ a, x = .ref a ∧ (∃ xs, SqL K H1 a xs) ∧ R (Itl K a) H1
def iTup (K : PySem.W.Frag) (tl : TE) : TI := fun σ H R => tl σ H fun x H1 => ∃ a, x = .ref a ∧ (∃ xs, SqT K H1 a xs) ∧ R (Itt K a) H1
def iRng1 (ta : TA) : TI := fun σ H R => ta σ H fun vs H1 => ∃ j : Int, vs = [.int j] ∧ -(2 ^ 62) ≤ j ∧ j < 2 ^ 62 ∧ R (Itr 0 j.toNat) H1
def iRng2 (ta : TA) : TI := fun σ H R => ta σ H fun vs H1 => ∃ i j : Int, vs = [.int i, .int j] ∧ (-(2 ^ 62) ≤ i ∧ i < 2 ^ 62 ∧ -(2 ^ 62) ≤ j ∧ j < 2 ^ 62) ∧ R (Itr i (j - i).toNat) H1
def tFor (wi : TI) (g : TG) (tb : TS) : TS := fun D σ H => wi σ H fun J H1 => ∃ W : Nat → Nat → St → Hp → Prop, (∃ m, W 0 m σ H1) ∧ ∀ i m σ H, W i m σ H →
  (J.stop i H ∧ D.nx σ H) ∨ (J.go i H ∧ ∃ N : St → Hp → Prop, (∀ σ' H', N σ' H' → ∃ m', m' < m ∧ W (i + 1) m' σ' H') ∧ ∀ x H', J.yld i H x H' → g x σ H' fun σ2 H2 => tb { D with nx := N, ct := N, bk := D.nx } σ2 H2)
def pinsAt (fp : List Addr) (h : Heap) : List (Addr × Obj) := fp.filterMap fun b => (h.get? b).map fun o => (b, o)
theorem mem_pinsAt {fp : List Addr} {h : Heap} {b : Addr} {o : Obj} (hb : b ∈ fp) (e : h.get? b = some o) : (b, o) ∈ pinsAt fp h := List.mem_filterMap.mpr ⟨b, hb, by rw [e]; rfl⟩
theorem of_pinsAt {fp : List Addr} {h : Heap} {p : Addr × Obj} (hp : p ∈ pinsAt fp h) : p.1 ∈ fp ∧ h.get? p.1 = some p.2 := by
  obtain ⟨b, hb, e⟩ := List.mem_filterMap.mp hp
  cases q : h.get? b with
  | none => rw [q] at e; cases e
  | some o =>
    rw [q] at e
    have e' : (b, o) = p := Option.some.inj e
    subst e'
    exact ⟨hb, q⟩
theorem Inv.pinned {pins : List (Addr × Obj)} {σ : St} {H : Hp} {s : Shared} {fp : List Addr} (I : Inv X pins σ H s) (hf : ∀ b ∈ fp, FpOk X pins H b) (ho : ∀ b ∈ fp, ∃ o, s.heap.get? b = some o ∧ ∀ v, o.data ≠ .cell v) : Inv X (pins ++ pinsAt fp s.heap) σ H s :=
  I.pins_of fun p hp => (List.mem_append.mp hp).elim (fun z => I.pin p (List.mem_append_right _ z)) fun z => by
    obtain ⟨hb, e⟩ := of_pinsAt z
    obtain ⟨f0, f1, f2, _⟩ := hf p.1 hb
    obtain ⟨o, e', d⟩ := ho p.1 hb
    rw [e] at e'; cases e'
    exact ⟨e, f0, f1, f2, d⟩
theorem Inv.unpinned {pins pl : List (Addr × Obj)} {σ : St} {H : Hp} {s : Shared} (I : Inv X (pins ++ pl) σ H s) : Inv X pins σ H s := I.pins_of fun p hp => I.pin p (List.mem_append_right _ (List.mem_append_left _ hp))
end

theorem for_list {K : PySem.W.Frag} {a : Addr} {xs : List V} {g : TG} {tb : TS} {D : Ends} {σ : St} {H : Hp} (Pv : Nat → St → Hp → Prop) (h0 : Pv 0 σ H) (hl : ∀ i σ H, i ≤ xs.length → Pv i σ H → SqL K H a xs)
    (hs : ∀ i x σ H, xs[i]? = some x → Pv i σ H → g x σ H fun σ2 H2 => tb { D with nx := Pv (i + 1), ct := Pv (i + 1), bk := D.nx } σ2 H2) (hd : ∀ σ H, Pv xs.length σ H → D.nx σ H) :
    ∃ W : Nat → Nat → St → Hp → Prop, (∃ m, W 0 m σ H) ∧ ∀ i m σ H, W i m σ H →
      ((Itl K a).stop i H ∧ D.nx σ H) ∨ ((Itl K a).go i H ∧ ∃ N : St → Hp → Prop, (∀ σ' H', N σ' H' → ∃ m', m' < m ∧ W (i + 1) m' σ' H') ∧ ∀ x H', (Itl K a).yld i H x H' → g x σ H' fun σ2 H2 => tb { D with nx := N, ct := N, bk := D.nx } σ2 H2) := by
  refine ⟨fun i m σ H => m = xs.length - i ∧ i ≤ xs.length ∧ Pv i σ H, ⟨xs.length, by simp, Nat.zero_le _, h0⟩, ?_⟩
  rintro i m σ H ⟨rfl, hi, p⟩
  have q := hl i σ H hi p
  by_cases hlt : i < xs.length
  · refine .inr ⟨⟨xs, xs[i], q, by simp [hlt]⟩, Pv (i + 1), fun σ' H' p' => ⟨xs.length - (i + 1), by omega, rfl, hlt, p'⟩, fun x H' y => ?_⟩
    obtain ⟨e, y⟩ := y
    subst e
    exact hs i x σ _ (y xs q) p
  · have e : i = xs.length := by omega
    subst e
    exact .inl ⟨⟨xs, q, Nat.le_refl _⟩, hd σ H p⟩
end L2

namespace L2
open PySem PySem.Spec PyProof.Rows

abbrev R2 := V → V → Hp → VK → Prop
def OpR (X : Cx) (f : Value → Value → Sem Value) (r : R2) : Prop :=
  ∀ (pins : List (Addr × Obj)) (s : Shared) (σ : St) (H : Hp) (x y : V) (v u : Value) (Q : VK), Inv X pins σ H s → RelV x v → RelV y u → r x y H Q →
    wpAny (model X.prog X.w) X.A (f v u) (EP X pins σ Q) X.xe s
def UnR (X : Cx) (f : Value → Sem Value) (r : V → Hp → VK → Prop) : Prop :=
  ∀ (pins : List (Addr × Obj)) (s : Shared) (σ : St) (H : Hp) (x : V) (v : Value) (Q : VK), Inv X pins σ H s → RelV x v → r x H Q →
    wpAny (model X.prog X.w) X.A (f v) (EP X pins σ Q) X.xe s
def CallR (X : Cx) (f : Value) (r : List V → Hp → VK → Prop) : Prop :=
  ∀ (pins : List (Addr × Obj)) (s : Shared) (σ : St) (H : Hp) (xs : List V) (us : List Value) (Q : VK), Inv X pins σ H s → Vals xs us → r xs H Q →
    wpAny (model X.prog X.w) X.A (call f us) (EP X pins σ Q) X.xe s
def TruR (X : Cx) (r : V → Hp → (Bool → Hp → Prop) → Prop) : Prop :=
  ∀ (pins : List (Addr × Obj)) (s : Shared) (σ : St) (H : Hp) (x : V) (v : Value) (Q : Bool → Hp → Prop), Inv X pins σ H s → RelV x v → r x H Q →
    wpAny (model X.prog X.w) X.A (truthy v) (TP X pins σ Q) X.xe s

def tOp (r : R2) (ta tb : TE) : TE := fun σ H Q => ta σ H fun x H1 => tb σ H1 fun y H2 => r x y H2 Q
def tUn (r : V → Hp → VK → Prop) (ta : TE) : TE := fun σ H Q => ta σ H fun x H1 => r x H1 Q
def rI (C : Int → Int → Prop) (g : Int → Int → V) : R2 := fun x y H Q => ∃ i j, x = .int i ∧ y = .int j ∧ C i j ∧ Q (g i j) H
def rI0 (g : Int → Int → V) : R2 := fun x y H Q => ∃ i j, x = .int i ∧ y = .int j ∧ Q (g i j) H
def rU (g : Int → V) : V → Hp → VK → Prop := fun x H Q => ∃ i, x = .int i ∧ Q (g i) H

section
variable {X : Cx} {a b c : Expr} {ta tb tc : TE} {pos : Pos}

theorem binT (ha : PE X a ta) (hb : PE X b tb) {pins : List (Addr × Obj)} {s : Shared} {σ : St} {H : Hp} {R : V → V → Hp → Prop} (I : Inv X pins σ H s)
    (h : ta σ H fun x H1 => tb σ H1 fun y H2 => R x y H2) {Q : Value → Shared → Prop} {f : Value → Value → Sem Value}
    (hf : ∀ v u s2 x y H2, Inv X pins σ H2 s2 → RelV x v → RelV y u → R x y H2 → wpAny (model X.prog X.w) X.A (f v u) Q X.xe s2) :
    wpAny (model X.prog X.w) X.A (eval a X.env) (fun v s₁ => wpAny (model X.prog X.w) X.A (eval b X.env) (fun u s₂ => wpAny (model X.prog X.w) X.A (f v u) Q X.xe s₂) X.xe s₁) X.xe s := by
  refine thn (ha pins s σ H _ I h) fun v s1 ⟨x, H1, I1, r1, q1⟩ => ?_
  refine thn (hb pins s1 σ H1 _ I1 q1) fun u s2 ⟨y, H2, I2, r2, q2⟩ => ?_
  exact hf v u s2 x y H2 I2 r1 r2 q2

theorem pe_op {op : Operator} {r : R2} (ho : OpR X (binaryOp op) r) (ha : PE X a ta) (hb : PE X b tb) : PE X (.BinOp a op b pos) (tOp r ta tb) := by
  intro pins s σ H Q I h
  exact wpAny_BinOp (binT ha hb I h fun v u s2 x y H2 I2 rx ry q => ho pins s2 σ H2 x y v u Q I2 rx ry q)
theorem opI {f : Value → Value → Sem Value} {C : Int → Int → Prop} {g : Int → Int → Int}
    (rule : ∀ (i j : Int) (t u : Tok) (s : Shared) (Q : Value → Shared → Prop) (E : Value → Shared → Prop), C i j → Q (.int (g i j) s.toks) { s with toks := s.toks + 1 } → wpAny (model X.prog X.w) X.A (f (.int i t) (.int j u)) Q E s) :
    OpR X f (rI C fun i j => .int (g i j)) := by
  intro pins s σ H x y v u Q I rx ry h
  obtain ⟨i, j, rfl, rfl, hc, q⟩ := h
  obtain ⟨t, rfl⟩ := rx
  obtain ⟨t', rfl⟩ := ry
  exact rule i j t t' s _ _ hc ⟨.int (g i j), H, I.tok _, ⟨_, rfl⟩, q⟩
theorem opI0 {f : Value → Value → Sem Value} {g : Int → Int → Int}
    (rule : ∀ (i j : Int) (t u : Tok) (s : Shared) (Q : Value → Shared → Prop) (E : Value → Shared → Prop), Q (.int (g i j) s.toks) { s with toks := s.toks + 1 } → wpAny (model X.prog X.w) X.A (f (.int i t) (.int j u)) Q E s) :
    OpR X f (rI0 fun i j => .int (g i j)) := by
  intro pins s σ H x y v u Q I rx ry h
  obtain ⟨i, j, rfl, rfl, q⟩ := h
  obtain ⟨t, rfl⟩ := rx
  obtain ⟨t', rfl⟩ := ry
  exact rule i j t t' s _ _ ⟨.int (g i j), H, I.tok _, ⟨_, rfl⟩, q⟩
theorem opB0 {f : Value → Value → Sem Value} {g : Int → Int → Bool}
    (rule : ∀ (i j : Int) (t u : Tok) (s : Shared) (Q : Value → Shared → Prop) (E : Value → Shared → Prop), Q (.bool (g i j)) s → wpAny (model X.prog X.w) X.A (f (.int i t) (.int j u)) Q E s) :
    OpR X f (rI0 fun i j => .bl (g i j)) := by
  intro pins s σ H x y v u Q I rx ry h
  obtain ⟨i, j, rfl, rfl, q⟩ := h
  obtain ⟨t, rfl⟩ := rx
  obtain ⟨t', rfl⟩ := ry
  exact rule i j t t' s _ _ ⟨.bl (g i j), H, I, rfl, q⟩

def CDiv (i j : Int) : Prop := 0 < j ∧ j < 1073741824
def CDivN (i j : Int) : Prop := j ≠ 0 ∧ j.natAbs < 1073741824
def CPow (i j : Int) : Prop := 0 ≤ j ∧ j ≤ 1000000 ∧ i.natAbs < 2 ^ 64
def CMul (i j : Int) : Prop := (-(2 ^ 64) < i ∧ i < 2 ^ 64) ∨ (-(2 ^ 64) < j ∧ j < 2 ^ 64)
theorem op_add : OpR X (binaryOp .Add) (rI0 fun i j => .int (i + j)) := opI0 fun _ _ _ _ _ _ _ q => add_int q
theorem op_sub : OpR X (binaryOp .Sub) (rI0 fun i j => .int (i - j)) := opI0 fun _ _ _ _ _ _ _ q => sub_int q
theorem op_mod : OpR X (binaryOp .Mod) (rI (fun _ j => 0 < j) fun i j => .int (i % j)) := opI fun i j _ _ _ _ _ hc q => by
  have h1 : (0 : Int) < j := hc
  exact mod_int' (by omega) (by rw [Int.fmod_eq_emod_of_nonneg i (by omega)]; exact q)
theorem op_pow : OpR X (binaryOp .Pow) (rI CPow fun i j => .int (i ^ j.toNat)) := opI fun _ _ _ _ _ _ _ hc q => pow_int_small hc.1 hc.2.1 hc.2.2 q
end

def scal : V → V → Bool
  | .non, .non => true | .non, .int _ => true | .int _, .non => true | .non, .bl _ => true | .bl _, .non => true | .non, .str _ => true | .str _, .non => true
  | .int _, .int _ => true | .bl _, .bl _ => true | .str _, .str _ => true | .byt _, .byt _ => true
  | .int _, .str _ => true | .str _, .int _ => true | .bl _, .str _ => true | .str _, .bl _ => true
  | _, _ => false
def rEq : R2 := fun x y H Q => scal x y = true ∧ Q (.bl (decide (x = y))) H
def rNe : R2 := fun x y H Q => scal x y = true ∧ Q (.bl (!decide (x = y))) H

theorem dec_int {i j : Int} : decide (V.int i = V.int j) = (i == j) := by
  rw [Bool.eq_iff_iff]
  simp
theorem dec_bl {i j : Bool} : decide (V.bl i = V.bl j) = (i == j) := by
  rw [Bool.eq_iff_iff]
  simp
theorem dec_str {i j : Str} : decide (V.str i = V.str j) = (i == j) := by
  rw [Bool.eq_iff_iff]
  simp
theorem dec_byt {i j : Array UInt8} : decide (V.byt i = V.byt j) = (i.toList == j.toList) := by
  rw [Bool.eq_iff_iff]
  cases i
  cases j
  simp

section
variable {X : Cx} {a b c : Expr} {ta tb tc : TE} {pos : Pos}
theorem fin_bl {pins : List (Addr × Obj)} {σ : St} {H : Hp} {s : Shared} {Q : VK} {k k' : Bool} (I : Inv X pins σ H s) (q : Q (.bl k) H) (e : k = k') : EP X pins σ Q (.bool k') s := by
  subst e
  exact ⟨.bl k, H, I, rfl, q⟩
theorem op_eq : OpR X (compareOp .Eq) rEq := by
  intro pins s σ H x y v u Q I rx ry h
  obtain ⟨hs, q⟩ := h
  cases x with
  | non =>
    cases rx
    cases y with
    | non => cases ry; exact PySem.EqNone.eq_none_none (fin_bl I q (by simp))
    | bl j => cases ry; exact PySem.EqNone.eq_none_bool (fin_bl I q (by simp))
    | int j => obtain ⟨t', rfl⟩ := ry; exact PySem.EqNone.eq_none_int (fin_bl I q (by simp))
    | str j => obtain ⟨t', rfl⟩ := ry; exact PySem.EqNone.eq_none_str (fin_bl I q (by simp))
    | _ => exact absurd (show false = true from hs) Bool.false_ne_true
  | bl i =>
    cases rx
    cases y with
    | non => cases ry; exact PySem.EqNone.eq_bool_none (fin_bl I q (by simp))
    | bl j => cases ry; exact eq_bool (fin_bl I q dec_bl)
    | str j => obtain ⟨t', rfl⟩ := ry; exact PySem.EqMixed.eq_bool_str (fin_bl I q (by simp))
    | _ => exact absurd (show false = true from hs) Bool.false_ne_true
  | int i =>
    obtain ⟨t, rfl⟩ := rx
    cases y with
    | non => cases ry; exact PySem.EqNone.eq_int_none (fin_bl I q (by simp))
    | int j => obtain ⟨t', rfl⟩ := ry; exact eq_int (fin_bl I q dec_int)
    | str j => obtain ⟨t', rfl⟩ := ry; exact PySem.EqMixed.eq_int_str (fin_bl I q (by simp))
    | _ => exact absurd (show false = true from hs) Bool.false_ne_true
  | str i =>
    obtain ⟨t, rfl⟩ := rx
    cases y with
    | non => cases ry; exact PySem.EqNone.eq_str_none (fin_bl I q (by simp))
    | bl j => cases ry; exact PySem.EqMixed.eq_str_bool (fin_bl I q (by simp))
    | int j => obtain ⟨t', rfl⟩ := ry; exact PySem.EqMixed.eq_str_int (fin_bl I q (by simp))
    | str j => obtain ⟨t', rfl⟩ := ry; exact eq_str (fin_bl I q dec_str)
    | _ => exact absurd (show false = true from hs) Bool.false_ne_true
  | byt i =>
    obtain ⟨t, rfl⟩ := rx
    cases y with
    | byt j => obtain ⟨t', rfl⟩ := ry; exact PySem.W.eq_bytes (fin_bl I q dec_byt)
    | _ => exact absurd (show false = true from hs) Bool.false_ne_true
  | _ => cases y <;> exact absurd (show false = true from hs) Bool.false_ne_true
theorem op_lt : OpR X (compareOp .Lt) (rI0 fun i j => .bl (decide (i < j))) := opB0 fun _ _ _ _ _ _ _ q => lt_int q
theorem op_gt : OpR X (compareOp .Gt) (rI0 fun i j => .bl (decide (j < i))) := opB0 fun _ _ _ _ _ _ _ q => gt_int q
theorem op_ge : OpR X (compareOp .GtE) (rI0 fun i j => .bl (decide (j ≤ i))) := opB0 fun _ _ _ _ _ _ _ q => ge_int q
theorem op_isN : OpR X (compareOp .Is) (fun x y H Q => y = .non ∧ Q (.bl (decide (x = .non))) H) := by
  intro pins s σ H x y v u Q I rx ry h
  obtain ⟨rfl, q⟩ := h
  cases ry
  refine is_none_gen (fin_bl I q ?_)
  cases x <;> first
    | (cases rx; rfl)
    | (obtain ⟨t, rfl⟩ := rx; rfl)
theorem op_notN : OpR X (compareOp .IsNot) (fun x y H Q => y = .non ∧ Q (.bl (!decide (x = .non))) H) := by
  intro pins s σ H x y v u Q I rx ry h
  obtain ⟨rfl, q⟩ := h
  cases ry
  refine isnot_none_gen (fin_bl I q ?_)
  cases x <;> first
    | (cases rx; rfl)
    | (obtain ⟨t, rfl⟩ := rx; rfl)

def isObj : HO → Bool
  | .lst _ => true
  | .ins _ _ _ => true
  | _ => false
theorem nomark (b : Expr) {op : CmpOp} (h : op ≠ .In := by decide) (h2 : op ≠ .NotIn := by decide) : behindInMarks op b = false := by
  have e1 : (op == CmpOp.In) = false := by cases op <;> first | rfl | exact absurd rfl h
  have e2 : (op == CmpOp.NotIn) = false := by cases op <;> first | rfl | exact absurd rfl h2
  cases b <;> simp [behindInMarks, e1, e2]
def tTest (t : TE) : TT := fun σ H Q => t σ H fun x H' => ∃ k, x = .bl k ∧ Q k H'
theorem pt_cmpR {op : CmpOp} {r : R2} (ho : OpR X (compareOp op) r) (ha : PE X a ta) (hb : PE X b tb) (hm : behindInMarks op b = false) : PT X (.Compare a [op] [b] pos) (tTest (tOp r ta tb)) := by
  intro pins s σ H Q I h
  refine wpAny_isTrue_Compare1 (thn (ha pins s σ H _ I h) fun v s1 ⟨x, H1, I1, r1, q1⟩ => thn (hb pins s1 σ H1 _ I1 q1) fun u s2 ⟨y, H2, I2, r2, q2⟩ =>
    thn (ho pins s2 σ H2 x y v u _ I2 r1 r2 q2) fun c s3 ⟨z, H3, I3, r3, k, e, q3⟩ => ?_) hm
  subst e
  cases r3
  exact wpAny_truthy_bool ⟨H3, I3, q3⟩
def tChain (r r' : R2) (ta tb tc : TE) : TE := fun σ H Q => ta σ H fun x H1 => tb σ H1 fun y H2 => r x y H2 fun z H3 => ∃ k, z = .bl k ∧
  (if k = true then tc σ H3 fun w' H4 => r' y w' H4 Q else Q (.bl false) H3)
def TruV (K : PySem.W.Frag) (x : V) (H : Hp) (k : Bool) : Prop :=
  match x with
  | .non => k = false
  | .bl b => k = b
  | .int i => k = (i != 0)
  | .str y => y.length ≤ sizeLine ∧ k = ((y.length : Int) != 0)
  | .byt y => y.size ≤ sizeLine ∧ k = ((y.size : Int) != 0)
  | .ref p => (∃ xs, SqL K H p xs ∧ k = !xs.isEmpty) ∨ (∃ xs, SqT K H p xs ∧ k = !xs.isEmpty) ∨ ∃ kvs, H p = some (.dK kvs) ∧ k = !kvs.isEmpty
  | _ => False
theorem isEmpty_kv {κ : Type} {kvs : List (κ × V)} {vs : List (κ × Value)} (r : KV kvs vs) : (!vs.isEmpty) = !kvs.isEmpty := by
  cases r <;> rfl
theorem isEmpty_of {xs : List V} {its : List Value} (r : Vals xs its) : (!its.toArray.isEmpty) = !xs.isEmpty := by
  cases r <;> simp
theorem line63 : (sizeLine : Nat) < 2 ^ 63 := by rw [sizeLine_eq]; decide
theorem tru_ok : TruR X (fun x H Q => ∃ k, TruV X.K x H k ∧ Q k H) := by
  intro pins s σ H x v Q I rx h
  obtain ⟨k, e, q⟩ := h
  have hl := line63
  have hs : sizeLine = 16777216 := sizeLine_eq
  cases x with
  | non =>
    cases rx
    have e' : k = false := e
    subst e'
    exact truthy_none ⟨H, I, q⟩
  | bl b =>
    cases rx
    have e' : k = b := e
    subst e'
    exact wpAny_truthy_bool ⟨H, I, q⟩
  | int i =>
    obtain ⟨t, rfl⟩ := rx
    have e' : k = (i != 0) := e
    subst e'
    exact PySem.P.truthy_int ⟨H, I, q⟩
  | str y =>
    obtain ⟨t, rfl⟩ := rx
    obtain ⟨hy, e'⟩ : y.length ≤ sizeLine ∧ k = ((y.length : Int) != 0) := e
    subst e'
    exact PySem.P.truthy_str (by omega) ⟨H, I.tok _, q⟩
  | byt y =>
    obtain ⟨t, rfl⟩ := rx
    obtain ⟨hy, e'⟩ : y.size ≤ sizeLine ∧ k = ((y.size : Int) != 0) := e
    subst e'
    exact PySem.W.truthy_bytes (by omega) ⟨H, I.tok _, q⟩
  | ref p =>
    cases rx
    have e' : (∃ xs, SqL X.K H p xs ∧ k = !xs.isEmpty) ∨ (∃ xs, SqT X.K H p xs ∧ k = !xs.isEmpty) ∨ ∃ kvs, H p = some (.dK kvs) ∧ k = !kvs.isEmpty := e
    rcases e' with ⟨xs, hx, e'⟩ | ⟨xs, hx, e'⟩ | ⟨kvs, hx, e'⟩
    · subst e'
      obtain ⟨its, r, pl, hz⟩ := I.list hx
      have hlen := r.length
      exact wpAny_truthy_list pl.isList (by simp only [List.size_toArray]; omega) ⟨H, I.tok _, by rw [isEmpty_of r]; exact q⟩
    · subst e'
      obtain ⟨its, r, pl, hz⟩ := I.tuple hx
      have hlen := r.length
      exact truthy_tuple pl (by simp only [List.size_toArray]; omega) ⟨H, I.tok _, by rw [isEmpty_of r]; exact q⟩
    · subst e'
      obtain ⟨hz, hS, vs, r, m⟩ : kvs.length ≤ sizeLine ∧ (p == sysModules) = false ∧ ∃ vs, KV kvs vs ∧ s.heap.DictOf (mixKind X.prog X.w) p vs := I.hok p _ hx
      have hlen : kvs.length = vs.length := Paired.length r
      exact wpAny_truthy_dict hS m (by omega) ⟨H, I.tok _, by rw [isEmpty_kv r]; exact q⟩
  | _ => exact (show False from e).elim
theorem pt_truth (ha : PE X a ta) (he : ∀ whole, isTrue a X.env whole = (do let v ← whole; standAt a.pos; holding [v] (truthy v))) :
    PT X a (fun σ H Q => ta σ H fun x H' => ∃ k, TruV X.K x H' k ∧ Q k H') := by
  intro pins s σ H Q I h
  exact isTrue_plain (thn (ha pins s σ H _ I h) fun v s1 ⟨x, H1, I1, r1, q1⟩ => tru_ok pins s1 σ H1 x v Q I1 r1 q1) (he _)

def PlainIxT (b : Expr) : Prop := ∀ o i, subscripted b false o i = operate [o, i] (getItem o i)
theorem vals1 {x : V} {us : List Value} (r : Vals [x] us) : ∃ u, us = [u] ∧ RelV x u := by
  cases r with
  | cons r1 r2 => cases r2; exact ⟨_, rfl, r1⟩
theorem vals2 {x y : V} {us : List Value} (r : Vals [x, y] us) : ∃ u w', us = [u, w'] ∧ RelV x u ∧ RelV y w' := by
  cases r with
  | cons r1 r2 =>
    cases r2 with
    | cons r3 r4 => cases r4; exact ⟨_, _, rfl, r1, r3⟩
theorem call_str_int : CallR X (.type "str") (fun xs H Q => ∃ i, xs = [.int i] ∧ i.natAbs.log2 < 1920 ∧ Q (.str (toString i)) H) := by
  intro pins s σ H xs us Q I r h
  obtain ⟨i, rfl, hz, q⟩ := h
  obtain ⟨u, rfl, t, rfl⟩ := vals1 r
  exact PySem.P.str_of_int hz ⟨.str _, H, I.tok _, ⟨_, rfl⟩, q⟩
def LenV (K : PySem.W.Frag) (x : V) (H : Hp) (n : Nat) : Prop :=
  match x with
  | .str y => y.length ≤ sizeLine ∧ n = y.length
  | .byt y => y.size ≤ sizeLine ∧ n = y.size
  | .ref p => (∃ xs, SqL K H p xs ∧ n = xs.length) ∨ ∃ xs, SqT K H p xs ∧ n = xs.length
  | _ => False
end
end L2

namespace L2
open PySem PySem.Spec PyProof.Rows

structure ObjM (h : Heap) (x dx C : Addr) (mA : Str → Option Value) : Prop where
  obj : h.get? x = some (PySem.W.instObj C dx)
  ns : h.Ns1 dx mA
  ne : dx ≠ x

theorem lookIn_ns {h : Heap} {dx : Addr} {mA : Str → Option Value} (n : h.Ns1 dx mA) : ∃ od, h.get? dx = some od ∧ ∀ name, PySem.W.lookIn name od = some (mA name) := by
  obtain ⟨o, es, ep, ho, hd, hk, _, hm⟩ := n
  refine ⟨o, ho, fun name => ?_⟩
  have e := hm name
  unfold nsFind findBy at e
  rw [← Array.find?_toList] at e
  unfold PySem.W.lookIn
  rw [hd]
  dsimp only
  split
  · rename_i y q
    rw [q] at e
    exact congrArg some e
  · rename_i q
    rw [q] at e
    have a : es.toList.any (·.refKey) = false := by
      rw [List.any_eq_false]
      intro y hy
      obtain ⟨z, t, hkey⟩ := hk y (Array.mem_toList_iff.mp hy)
      simp [DictEntry.refKey, hkey]
    have a' : ¬ es.toList.any (·.refKey) = true := by rw [a]; exact Bool.false_ne_true
    rw [if_neg a']
    exact congrArg some e

theorem ObjM.look {h : Heap} {x dx C : Addr} {mA : Str → Option Value} (I : ObjM h x dx C mA) : ∃ od, PySem.W.InstAt h x (PySem.W.instObj C dx) C (some od) ∧ ∀ name, PySem.W.lookIn name od = some (mA name) :=
  let ⟨od, ho, hl⟩ := lookIn_ns I.ns
  ⟨od, ⟨I.obj, rfl, rfl, ho⟩, hl⟩

section
variable {prog : Program} {w : World} {A : Around} {E : Value → Shared → Prop} {s : Shared} {K : PySem.W.Frag} {x dx C f : Addr} {mA : Str → Option Value} {name : Str} {v : Value}

theorem set_map {ns : List Str} {Q : Unit → Shared → Prop} (X : K.In s.heap) (I : ObjM s.heap x dx C mA)
    (hs : PySem.W.findIn K (.ref C) "__setattr__" = some (some (.builtin "object.__setattr__"))) (hp : PySem.W.plainOver K C = true) (ht : PySem.W.takerIn K C name = some none) (hh : PySem.W.hasDictIn K C = true)
    (hw : PySem.Within mA ns) (hsz : ns.length ≤ sizeLine)
    (h : ∀ h', ObjM h' x dx C (fun y => if y = name then some v else mA y) → Heap.SameBut dx s.heap h' → Q () { s with heap := h', toks := s.toks + 2 }) :
    wpAny (model prog w) A (setAttr (.ref x) name v) Q E s := by
  obtain ⟨od, J, hl⟩ := I.look
  refine PySem.W.set_plain X J hs (PySem.W.osa_open (s := { s with toks := s.toks + 1 }) (r := none) X J hp ht fun b => ?_)
  obtain ⟨cd, hc, hd'⟩ := PySem.W.any_some hh
  have hx : s.heap.get? x = some ⟨.ref C, some dx, .plain, #[]⟩ := I.obj
  refine wpAny_bind (wpAny_pure (wpAny_bind (wpAny_bind (wpAny_loadPart hx (wpAny_bind (PySem.W.Looks.here (s := { s with toks := s.toks + 1 }) (PySem.W.looks_clsIn X hc) ?_))))))
  rw [hd']
  refine wpAny_pure (a := some dx) (wpAny_bind (wpAny_pure (wpAny_bind ?_)))
  refine wpAny_nsSet1 (s := { s with toks := s.toks + 1 }) I.ns fun h' hn2 hs2 => ?_
  obtain ⟨oD, esD, epD, hoD, hdD, hcD⟩ := hn2.count (PySem.Within.cons name v hw)
  refine wpAny_bind (wpAny_lookBehind hoD (by rw [hdD]; exact pastItsLine_dict (Nat.le_trans hcD (by rw [List.length_cons]; omega))) ?_)
  exact wpAny_pure (h _ ⟨(hs2.2 _ (Ne.symm I.ne)).trans I.obj, hn2, I.ne⟩ hs2)

theorem make_map {R : Result → Shared → Prop} {vs : List Value} {kw : List (Str × Value)} (X : K.In s.heap) (hm : PySem.W.makesIn K C = true)
    (hi : PySem.W.findIn K (.ref C) "__init__" = some (some (.ref f))) (hf : PySem.W.typeIn K (.ref f) = some (.type "function"))
    (h : codeAny (model prog w) (A.under (.builtin "type.__call__" ⟨.ref C :: vs, kw⟩)) (.call (.ref f) ⟨.ref (s.heap.objs.size + 1) :: vs, kw⟩) (PySem.W.InitBack (s.heap.objs.size + 1) R)
      { s with heap := (s.heap.push PySem.W.emptyDict).push (PySem.W.instObj C s.heap.objs.size) }) :
    codeAny (model prog w) A (.call (.ref C) ⟨vs, kw⟩) R s := by
  obtain ⟨hh, g, d, t, os⟩ := s
  exact PySem.W.make_core (PySem.W.makes_of X hm) (PySem.W.looks_findIn X hi) (fun self => PySem.W.bind_fn X self hf) (.inl rfl) h
end

def putF (f : Str) (v : V) : List (Str × V) → List (Str × V)
  | [] => [(f, v)]
  | (g, x) :: r => if g = f then (g, v) :: r else (g, x) :: putF f v r
theorem lookup_putF (f g : Str) (v : V) : ∀ fs : List (Str × V), (putF f v fs).lookup g = if g = f then some v else fs.lookup g
  | [] => by
    show List.lookup g [(f, v)] = _
    by_cases h : g = f
    · have hb : (g == f) = true := beq_iff_eq.mpr h
      simp only [List.lookup, hb, if_pos h]
    · have hb : (g == f) = false := beq_eq_false_iff_ne.mpr h
      simp only [List.lookup, hb, if_neg h]
  | (k, x) :: r => by
    have ih := lookup_putF f g v r
    rw [show putF f v ((k, x) :: r) = (if k = f then (k, v) :: r else (k, x) :: putF f v r) from rfl]
    by_cases hk : k = f
    · rw [if_pos hk]
      by_cases h : g = k
      · have hb : (g == k) = true := beq_iff_eq.mpr h
        simp only [List.lookup, hb, if_pos (h.trans hk)]
      · have hb : (g == k) = false := beq_eq_false_iff_ne.mpr h
        simp only [List.lookup, hb, if_neg (fun e : g = f => h (e.trans hk.symm))]
    · rw [if_neg hk]
      by_cases h : g = k
      · have hb : (g == k) = true := beq_iff_eq.mpr h
        simp only [List.lookup, hb, if_neg (fun e : g = f => hk (h.symm.trans e))]
      · have hb : (g == k) = false := beq_eq_false_iff_ne.mpr h
        simp only [List.lookup, hb]
        exact ih
theorem keys_putF (f : Str) (v : V) : ∀ fs : List (Str × V), f ∈ (putF f v fs).map (·.1) ∧ ∀ g, g ∈ fs.map (·.1) → g ∈ (putF f v fs).map (·.1)
  | [] => ⟨by simp [putF], fun g h => by simp at h⟩
  | (k, x) :: r => by
    obtain ⟨i1, i2⟩ := keys_putF f v r
    rw [show putF f v ((k, x) :: r) = (if k = f then (k, v) :: r else (k, x) :: putF f v r) from rfl]
    by_cases hk : k = f
    · rw [if_pos hk]
      subst hk
      exact ⟨by simp, fun g h => by simpa using h⟩
    · rw [if_neg hk]
      refine ⟨?_, fun g h => ?_⟩
      · rw [List.map_cons]
        exact List.mem_cons_of_mem _ i1
      · rw [List.map_cons] at h ⊢
        rcases List.mem_cons.mp h with e | e
        · exact List.mem_cons.mpr (.inl e)
        · exact List.mem_cons_of_mem _ (i2 g e)
theorem length_putF (f : Str) (v : V) : ∀ fs : List (Str × V), (putF f v fs).length ≤ fs.length + 1
  | [] => by simp [putF]
  | (k, x) :: r => by
    have ih := length_putF f v r
    rw [show putF f v ((k, x) :: r) = (if k = f then (k, v) :: r else (k, x) :: putF f v r) from rfl]
    by_cases hk : k = f
    · rw [if_pos hk, List.length_cons, List.length_cons]; omega
    · rw [if_neg hk, List.length_cons, List.length_cons]; omega

section
variable {P : Program} {w : World} {H H' : Hp} {h h' : Heap} {a C dx : Addr} {fs fs' : List (Str × V)}
theorem ins_get (hok : HOk P w H h) (e : H a = some (.ins C dx fs)) : ∃ mA, ObjM h a dx C mA ∧ (∀ f, RelO (fs.lookup f) (mA f)) ∧ PySem.Within mA (fs.map (·.1)) ∧ fs.length ≤ 1000 ∧ H dx = some (.own a) := by
  obtain ⟨d, z, ne, ob, mA, n, r, q⟩ := (show ObjOk P w H h a (.ins C dx fs) from hok a _ e)
  exact ⟨mA, ⟨ob, n, ne⟩, r, q, z, d⟩
end

structure Cls (K : PySem.W.Frag) (C : Addr) : Prop where
  pg : PySem.W.plainGet K C Str.empty = true
  hd : PySem.W.hasDictIn K C = true
  po : PySem.W.plainOver K C = true
  sa : PySem.W.findIn K (.ref C) "__setattr__" = some (some (.builtin "object.__setattr__"))
theorem Cls.get {K : PySem.W.Frag} {C : Addr} (c : Cls K C) (f : Str) : PySem.W.plainGet K C f = true := c.pg
def NoAttr (K : PySem.W.Frag) (C : Addr) (f : Str) : Prop := PySem.W.findIn K (.ref C) f = some none
theorem NoAttr.taker {K : PySem.W.Frag} {C : Addr} {f : Str} (n : NoAttr K C f) : PySem.W.takerIn K C f = some none := by
  unfold PySem.W.takerIn
  rw [show PySem.W.findIn K (.ref C) f = some none from n]
  rfl
structure Con (K : PySem.W.Frag) (C : Addr) (f : Str) (v : V) (u : Value) : Prop where
  at_ : PySem.W.findIn K (.ref C) f = some (some u)
  rel : RelV v u
  get : PySem.W.specialIn K u "__get__" = some none
  cp : PySem.W.copiedNames.contains f = false
structure Meth (K : PySem.W.Frag) (C : Addr) (m : Str) (f : Addr) : Prop where
  at_ : PySem.W.findIn K (.ref C) m = some (some (.ref f))
  fn : PySem.W.isFn K (.ref f) = true
  kp : PySem.W.keepIn K (.ref f) = true

section
variable {X : Cx} {pins : List (Addr × Obj)} {σ : St} {H : Hp} {s : Shared} {a C dx : Addr} {fs : List (Str × V)} {f : Str} {v : V} {A : Around} {E : Value → Shared → Prop}

theorem setattr_ok {y : V} {u : Value} {Q : Unit → Shared → Prop} (I : Inv X pins σ H s) (e : H a = some (.ins C dx fs)) (c : Cls X.K C) (n : NoAttr X.K C f) (hl : fs.length < 1000) (ry : RelV y u)
    (h : ∀ s', Inv X pins σ (upd H a (.ins C dx (putF f y fs))) s' → Q () s') : wpAny (model X.prog X.w) A (setAttr (.ref a) f u) Q E s := by
  obtain ⟨mA, O, r, wi, _, ho⟩ := ins_get I.hok e
  have hz : (fs.map (·.1)).length ≤ sizeLine := by rw [List.length_map, sizeLine_eq]; omega
  refine set_map I.kIn O c.sa c.po n.taker c.hd wi hz fun h' O' sb => h _ ?_
  have hd : ∃ o, h'.get? dx = some o := let ⟨o, _, _, e', _⟩ := O'.ns; ⟨o, e'⟩
  refine I.write (x := a) (e := dx) (by rw [e]; exact True.intro) (.inr ho) (fun b q hb z => (sb.2 b hb).trans z) hd ?_
  refine ⟨by rw [upd_ne O.ne]; exact ho, ?_, O.ne, O'.obj, _, O'.ns, fun g => ?_, fun g hg => ?_⟩
  · have := length_putF f y fs; omega
  · show RelO ((putF f y fs).lookup g) (if g = f then some u else mA g)
    rw [lookup_putF]
    by_cases q : g = f
    · rw [if_pos q, if_pos q]; exact ry
    · rw [if_neg q, if_neg q]; exact r g
  · by_cases q : g = f
    · rw [q]; exact (keys_putF f y fs).1
    · refine (keys_putF f y fs).2 g (wi g fun z => hg ?_)
      show (if g = f then some u else mA g) = none
      rw [if_neg q]; exact z

theorem Inv.made (I : Inv X pins σ H s) : Inv X pins σ (upd (upd H s.heap.objs.size (.own (s.heap.objs.size + 1))) (s.heap.objs.size + 1) (.ins C s.heap.objs.size []))
    { s with heap := (s.heap.push PySem.W.emptyDict).push (PySem.W.instObj C s.heap.objs.size) } := by
  have e1 : (s.heap.push PySem.W.emptyDict).get? s.heap.objs.size = some PySem.W.emptyDict := Heap.get?_push_size s.heap rfl
  have e2 : ((s.heap.push PySem.W.emptyDict).push (PySem.W.instObj C s.heap.objs.size)).get? (s.heap.objs.size + 1) = some (PySem.W.instObj C s.heap.objs.size) := by
    have := Heap.get?_push_size (s.heap.push PySem.W.emptyDict) (o := PySem.W.instObj C s.heap.objs.size) rfl
    rwa [Heap.size_push] at this
  have e3 : (s.heap.push PySem.W.emptyDict).Ns s.heap.objs.size (fun _ => none) := ⟨PySem.W.emptyDict, #[], _, e1, rfl, (fun e he => absurd he (by simp)), fun _ => rfl⟩
  have I1 := I.laid (a := s.heap.objs.size) (o := .own (s.heap.objs.size + 1)) (h' := s.heap.push PySem.W.emptyDict) (t' := s.toks) (fun b u q => Heap.get?_push_of_some _ q) (Nat.le_refl _) ⟨_, e1⟩
  refine I1.laid (a := s.heap.objs.size + 1) (o := .ins C s.heap.objs.size []) (t' := s.toks) (fun b u q => Heap.get?_push_of_some _ q) (Nat.le_of_eq (Heap.size_push _ _)) ?_
  have ne : s.heap.objs.size ≠ s.heap.objs.size + 1 := Nat.ne_of_lt (Nat.lt_succ_self _)
  refine ⟨by rw [upd_ne ne, upd_same], Nat.zero_le _, ne, e2, fun _ => none, (Heap.Ns1.of_empty e3).at fun o q => Heap.get?_push_of_some _ q, fun _ => True.intro, fun y hy => absurd rfl hy⟩

end

def tFld (K : PySem.W.Frag) (ta : TE) (f : Str) : TE := fun σ H Q => ta σ H fun x H1 => ∃ a C dx fs v, x = .ref a ∧ H1 a = some (.ins C dx fs) ∧ Cls K C ∧ NoAttr K C f ∧ fs.lookup f = some v ∧ Q v H1
def tCon (K : PySem.W.Frag) (ta : TE) (f : Str) : TE := fun σ H Q => ta σ H fun x H1 => ∃ a C dx fs v u, x = .ref a ∧ H1 a = some (.ins C dx fs) ∧ Cls K C ∧ Con K C f v u ∧ fs.lookup f = none ∧ Q v H1
def sFld (K : PySem.W.Frag) (ta tv : TE) (f : Str) : TS := fun D σ H => tv σ H fun y H1 => ta σ H1 fun x H2 => ∃ a C dx fs, x = .ref a ∧ H2 a = some (.ins C dx fs) ∧ Cls K C ∧ NoAttr K C f ∧ fs.length < 1000 ∧
  D.nx σ (upd H2 a (.ins C dx (putF f y fs)))
def InOp (X : Cx) (op : Operator) (rd : V → V → Hp → VK → Prop) : Prop :=
  ∀ (pins : List (Addr × Obj)) (s : Shared) (σ : St) (H : Hp) (x y : V) (u v : Value) (Q : VK), Inv X pins σ H s → RelV x u → RelV y v → rd x y H Q → wpAny (model X.prog X.w) X.A (inplaceOp op u v) (EP X pins σ Q) X.xe s
def sFldAug (K : PySem.W.Frag) (ta tv : TE) (rd : V → V → Hp → VK → Prop) (f : Str) : TS := fun D σ H => ta σ H fun x H1 => ∃ a C dx fs v, x = .ref a ∧ H1 a = some (.ins C dx fs) ∧ Cls K C ∧ NoAttr K C f ∧ fs.lookup f = some v ∧
  tv σ H1 fun y H2 => rd v y H2 fun z H3 => ∃ dx' fs', H3 a = some (.ins C dx' fs') ∧ fs'.length < 1000 ∧ D.nx σ (upd H3 a (.ins C dx' (putF f z fs')))

section
variable {X : Cx} {o e value : Expr} {f : Str} {pos pos' tpos : Pos} {ta tv : TE}
theorem ps_fld (ha : PE X o ta) (hv : PE X value tv) (hs : swapsWith value (some (.Attribute o f pos')) pos.line X.env = pure false) : PS X (.Assign [.Attribute o f pos'] value pos) (sFld X.K ta tv f) := by
  intro pins s σ H D I h
  refine plainObj_wpAny_Assign_Attribute (thn (hv pins s σ H _ I h) fun u s1 ⟨y, H1, I1, ry, q⟩ => thn (ha pins s1 σ H1 _ I1 q) fun ov s2 ⟨x, H2, I2, rx, a, C, dx, fs, ex, ea, c, n, l, q2⟩ => ?_) hs
  subst ex
  obtain rfl : ov = Value.ref a := rx
  exact setattr_ok I2 ea c n l ry fun s3 I3 => ⟨σ, _, I3, q2⟩
def rAdd : V → V → Hp → VK → Prop := fun x y H Q => ∃ i j, x = .int i ∧ y = .int j ∧ Q (.int (i + j)) H
def rSub : V → V → Hp → VK → Prop := fun x y H Q => ∃ i j, x = .int i ∧ y = .int j ∧ Q (.int (i - j)) H
end

section
variable {X : Cx} {pins : List (Addr × Obj)} {σ : St} {H : Hp} {s : Shared} {A : Around} {E : Value → Shared → Prop} {Q : Value → Shared → Prop} {c : Value} {b : Bool}
inductive TyOf (K : PySem.W.Frag) (H : Hp) : V → Value → Prop where
  | non : TyOf K H .non (.type "NoneType")
  | bl (x : Bool) : TyOf K H (.bl x) (.type "bool")
  | int (i : Int) : TyOf K H (.int i) (.type "int")
  | str (x : Str) : TyOf K H (.str x) (.type "str")
  | flt (x : UInt64) : TyOf K H (.flt x) (.type "float")
  | lst {a : Addr} {xs : List V} (e : H a = some (.lst xs)) : TyOf K H (.ref a) (.type "list")
  | frz {a : Addr} {o : Obj} {xs : List V} (e : H a = some (.frz o (.lst xs))) : TyOf K H (.ref a) (.type "list")
  | tup {a : Addr} {xs : List V} (e : H a = some (.tup xs)) : TyOf K H (.ref a) (.type "tuple")
  | dK {a : Addr} {kvs : List (Key × V)} (e : H a = some (.dK kvs)) : TyOf K H (.ref a) (.type "dict")
  | dT {a : Addr} {kvs : List (List Key × V)} (e : H a = some (.dT kvs)) : TyOf K H (.ref a) (.type "dict")
  | ins {a C dx : Addr} {fs : List (Str × V)} (e : H a = some (.ins C dx fs)) (cl : Cls K C) (ha : PySem.W.findIn K (.ref C) "__class__" = some (some (.builtin "object.__class__")))
      (hn : PySem.W.specialIn K (.builtin "object.__class__") "__get__" = some (some (.builtin "getset_descriptor.__get__"))) (htk : PySem.W.takesIn K (.builtin "object.__class__") = some true)
      (hm : PySem.W.mroIn K C (.type "object") = some true) : TyOf K H (.ref a) (.ref C)
theorem isinst_ok {x : V} {u t : Value} (I : Inv X pins σ H s) (rx : RelV x u) (ty : TyOf X.K H x t) (e : PySem.W.kitOne X.K t c = some b) (h : ∀ tk, Q (.bool b) { s with toks := tk }) :
    wpAny (model X.prog X.w) A (call (.builtin "isinstance") [u, c]) Q E s := by
  cases ty with
  | non => cases (show u = Value.none from rx); exact PySem.W.kia_one PySem.W.kitx_none I.kIn True.intro e (fun z => nomatch z) h
  | bl y => cases (show u = Value.bool y from rx); exact PySem.W.kia_one PySem.W.kitx_bool I.kIn True.intro e (fun z => nomatch z) h
  | int i => obtain ⟨t, q⟩ := (show ∃ t, u = Value.int i t from rx); cases q; exact PySem.W.kia_one PySem.W.kitx_int I.kIn True.intro e (fun z => nomatch z) h
  | str y => obtain ⟨t, q⟩ := (show ∃ t, u = Value.str y t from rx); cases q; exact PySem.W.kia_one PySem.W.kitx_str I.kIn True.intro e (fun z => nomatch z) h
  | flt y => obtain ⟨t, q⟩ := (show ∃ t, u = Value.float y t from rx); cases q; exact PySem.W.kia_one PySem.W.kitx_float I.kIn True.intro e (fun z => nomatch z) h
  | @lst a xs ea =>
    cases (show u = Value.ref a from rx)
    obtain ⟨_, _, n, _, h1⟩ := (show ObjOk X.prog X.w H s.heap a (.lst xs) from I.hok a _ ea)
    exact PySem.W.kia_one PySem.W.kitx_list I.kIn ⟨_, h1, rfl⟩ e (fun z => nomatch z) h
  | @frz a ob xs ea =>
    cases (show u = Value.ref a from rx)
    obtain ⟨_, _, _, n, _, h1⟩ := (show ObjOk X.prog X.w H s.heap a (.frz ob (.lst xs)) from I.hok a _ ea)
    exact PySem.W.kia_one PySem.W.kitx_list I.kIn ⟨_, h1, rfl⟩ e (fun z => nomatch z) h
  | @tup a xs ea =>
    cases (show u = Value.ref a from rx)
    obtain ⟨_, _, _, p⟩ := (show ObjOk X.prog X.w H s.heap a (.tup xs) from I.hok a _ ea)
    obtain ⟨o, h1, h2, _⟩ := p
    exact PySem.W.kia_one PySem.W.kitx_tuple I.kIn ⟨o, h1, h2⟩ e (fun z => nomatch z) h
  | @dK a kvs ea =>
    cases (show u = Value.ref a from rx)
    obtain ⟨_, _, vs, _, p⟩ := (show ObjOk X.prog X.w H s.heap a (.dK kvs) from I.hok a _ ea)
    obtain ⟨o, es, ep, h1, h2, _⟩ := p
    exact PySem.W.kia_one PySem.W.kitx_dict I.kIn ⟨o, h1, h2.1⟩ e (fun z => nomatch z) h
  | @dT a kvs ea =>
    cases (show u = Value.ref a from rx)
    obtain ⟨_, _, xs, _, o, es, ep, h1, h2, _⟩ := (show ObjOk X.prog X.w H s.heap a (.dT kvs) from I.hok a _ ea)
    exact PySem.W.kia_one PySem.W.kitx_dict I.kIn ⟨o, h1, h2.1⟩ e (fun z => nomatch z) h
  | @ins a C dx fs ea cl ha hn htk hm =>
    cases (show u = Value.ref a from rx)
    obtain ⟨mA, O, _⟩ := ins_get I.hok ea
    obtain ⟨od, J, _⟩ := O.look
    exact PySem.W.kia_one (PySem.W.kitx_own (cl.get _) cl.hd ha hn htk hm) I.kIn J e (fun z => nomatch z) h
end
end L2

namespace L2
open PySem PySem.Spec PyProof.Rows

structure Room (k : Nat) (A : Around) : Prop where
  hd : A.handled = none
  dp : A.depth + 3 * k + 5 < recursionLimit
  un : A.units + 16 * k + 200 < cLine
theorem Room.mono {j k : Nat} {A : Around} (r : Room k A) (h : j ≤ k) : Room j A := ⟨r.hd, by have := r.dp; omega, by have := r.un; omega⟩
theorem Room.deeper {k : Nat} {A : Around} (r : Room (k + 1) A) (env : Env) : Room k (A.deeper env) :=
  ⟨r.hd, by have := r.dp; show A.depth + 1 + 3 * k + 5 < _; omega, by have := r.un; show A.units + 3 + 16 * k + 200 < _; omega⟩
theorem make_depth {A : Around} {C : Addr} {us : List Value} {kw : List (Str × Value)} : (A.under (.builtin "type.__call__" ⟨.ref C :: us, kw⟩)).depth = A.depth + 1 := by
  first | rfl | simp [Around.under, Code.weight, Code.isCreation, Code.isGuard, Code.isCaller, Code.frames, Code.isFrame, guardIds]
theorem make_units {A : Around} {C : Addr} {us : List Value} {kw : List (Str × Value)} : (A.under (.builtin "type.__call__" ⟨.ref C :: us, kw⟩)).units = A.units + 1 := by
  first | rfl | simp [Around.under, Code.cUnits, Code.frames, Code.isFrame]
theorem Room.make {k : Nat} {A : Around} (r : Room (k + 1) A) (C : Addr) (us : List Value) (kw : List (Str × Value)) : Room k (A.under (.builtin "type.__call__" ⟨.ref C :: us, kw⟩)) :=
  ⟨r.hd, by have := r.dp; rw [make_depth]; omega, by have := r.un; rw [make_units]; omega⟩
theorem Room.depth {k : Nat} {A : Around} (r : Room k A) : A.depth < recursionLimit := by have := r.dp; omega
theorem Room.units {k : Nat} {A : Around} (r : Room k A) : A.units + 64 < cLine := by have := r.un; omega
def tNil : TA := fun _ H Q => Q [] H
def tCons (ta : TE) (tr : TA) : TA := fun σ H Q => ta σ H fun x H1 => tr σ H1 fun xs H2 => Q (x :: xs) H2
section
variable {X : Cx} {e : Expr} {es : List Expr} {te : TE} {t : TA} {pos : Pos}
theorem pa_nil : PA X [] tNil := fun _ _ _ _ H Q I h => Calls.spliced_nil ⟨[], H, I, .nil, h⟩
theorem pa_cons (ha : PE X e te) (hr : PA X es t) (hs : starEach (e :: es) X.env = (false, eval e X.env) :: starEach es X.env := by rfl) : PA X (e :: es) (tCons te t) := by
  intro pos pins s σ H Q I h
  rw [hs]
  show wpAny _ _ (spliced ((false, eval e X.env) :: backTo pos (starEach es X.env))) _ _ s
  refine Calls.spliced_cons (thn (ha pins s σ H _ I h) fun u s1 ⟨x, H1, I1, r1, q1⟩ => ?_)
  exact thn (hr pos pins s1 σ H1 _ I1 q1) fun us s2 ⟨xs, H2, I2, r2, q2⟩ => ⟨x :: xs, H2, I2, .cons r1 r2, q2⟩

def tTup (t : TA) : TE := fun σ H Q => t σ H fun xs H1 => xs.length ≤ sizeLine ∧ ∀ p, H1 p = none → Q (.ref p) (upd H1 p (.tup xs))
def tLst (t : TA) : TE := fun σ H Q => t σ H fun xs H1 => xs.length ≤ sizeLine ∧ ∀ p, H1 p = none → Q (.ref p) (upd H1 p (.lst xs))
theorem pe_lst (h : PA X es t) : PE X (.List es pos) (tLst t) := by
  intro pins s σ H Q I hq
  refine wpAny_List_spliced (thn (h pos pins s σ H _ I hq) fun us s1 ⟨xs, H1, I1, r, z, q⟩ => ⟨by rw [← r.length]; exact z, ?_⟩)
  have hf : H1 s1.heap.objs.size = none := I1.hok.fresh (Nat.le_refl _)
  refine ⟨.ref s1.heap.objs.size, upd H1 s1.heap.objs.size (.lst xs), I1.laid (t' := s1.toks) (fun b u e => Heap.get?_push_of_some _ e) (Nat.le_refl _) ?_, rfl, q _ hf⟩
  exact ⟨z, us, 0, r, Heap.get?_push_size _ rfl⟩
end

abbrev Sp := List V → Hp → VK → XK → Prop
abbrev CXT := List Env → Hp → Shared → XK → Value → Shared → Prop

structure Env0 (P : Program) (w : World) (K : PySem.W.Frag) (mg : Str → Option Value) (base : Heap) (A : Around) (outer : List Env) (s : Shared) (H : Hp) : Prop where
  frames : A.frames = some outer
  mod : Mod K mg base
  bs : ∀ b o, base.get? b = some o → s.heap.get? b = some o ∧ H b = none
  bsz : base.objs.size ≤ s.heap.objs.size
  funs : s.heap.FunFrames base outer
  frf : ∀ b ∈ frs outer, H b = none
  hok : HOk P w H s.heap
  bare : AllBare s.gens
def CE (outer : List Env) (P : Program) (w : World) (H : Hp) (s : Shared) (Q : VK) (u : Value) (s' : Shared) : Prop :=
  ∃ v H', s'.os = s.os ∧ AllBare s'.gens ∧ Un (frs outer) [] H H' s.heap s'.heap ∧ HOk P w H' s'.heap ∧ RelV v u ∧ Q v H'
def CR (CX : CXT) (outer : List Env) (P : Program) (w : World) (H : Hp) (s : Shared) (Q : VK) (E : XK) (r : Result) (s' : Shared) : Prop :=
  match r with
  | .ok (.ret u) => CE outer P w H s Q u s'
  | .ok _ => False
  | .error e => CX outer H s E e s'
structure FnOk (P : Program) (w : World) (K : PySem.W.Frag) (mg : Str → Option Value) (base : Heap) (CX : CXT) (k : Nat) (f : Addr) (fd : FuncData) (ps : List Str) (sp : Sp) : Prop where
  len : ∀ vs H Q E, sp vs H Q E → vs.length = ps.length
  run : ∀ (A : Around) (outer : List Env) (s : Shared) (H : Hp) (args : Args) (us : List Value) (vs : List V) (Q : VK) (E : XK), Room k A → Env0 P w K mg base A outer s H → BindsTo s fd args (ps.zip us) → Vals vs us → sp vs H Q E →
    codeAny (model P w) A (.call (.ref f) args) (CR CX outer P w H s Q E) s
theorem FnOk.mono {P : Program} {w : World} {K : PySem.W.Frag} {mg : Str → Option Value} {base : Heap} {CX : CXT} {j k : Nat} {f : Addr} {fd : FuncData} {ps : List Str} {sp : Sp} (F : FnOk P w K mg base CX j f fd ps sp) (h : j ≤ k) :
    FnOk P w K mg base CX k f fd ps sp := ⟨F.len, fun A outer s H args us vs Q E hr => F.run A outer s H args us vs Q E (hr.mono h)⟩
theorem Env0.make {P : Program} {w : World} {K : PySem.W.Frag} {mg : Str → Option Value} {base : Heap} {A : Around} {outer : List Env} {s : Shared} {H : Hp} (e : Env0 P w K mg base A outer s H) (C : Addr) (us : List Value) (kw : List (Str × Value)) :
    Env0 P w K mg base (A.under (.builtin "type.__call__" ⟨.ref C :: us, kw⟩)) outer s H := ⟨by first | exact e.frames | (simpa [Around.under, Code.envs, Code.isFrame, pushEnvs] using e.frames), e.mod, e.bs, e.bsz, e.funs, e.frf, e.hok, e.bare⟩
section
variable {X : Cx} {pins : List (Addr × Obj)} {σ : St} {H : Hp} {s s' : Shared}
theorem Inv.env0 (I : Inv X pins σ H s) : Env0 X.prog X.w X.K X.mg X.base X.A X.stack s H :=
  ⟨I.ok.frames, I.ok.mod, I.bs, Nat.le_trans I.ok.bsz I.sz, I.stack, I.stkFree, I.hok, I.bare⟩
theorem Inv.after {Q : VK} {u : Value} (I : Inv X pins σ H s) (h : CE X.stack X.prog X.w H s Q u s') : EP X pins σ Q u s' := by
  obtain ⟨v, H', os, bare, un, hok, r, q⟩ := h
  obtain ⟨hh, g, d, t, os'⟩ := s'
  obtain rfl : os' = s.os := os
  exact ⟨v, H', I.call (h' := hh) (g' := g) (d' := d) (t' := t) (ch := []) un hok bare (fun b z => absurd z (by simp)), r, q⟩
end

def tCall (sp : Sp) (dvs : List V) (E : XK) (t : TA) : TE := fun σ H Q => t σ H fun vs H1 => sp (vs ++ dvs) H1 Q E
def tMeth (C : Addr) (m : Str) (sp : Sp) (dvs : List V) (E : XK) (ta : TE) (t : TA) : TE := fun σ H Q => ta σ H fun x H1 => ∃ a dx fs, x = .ref a ∧ H1 a = some (.ins C dx fs) ∧ fs.lookup m = none ∧
  t σ H1 fun vs H2 => sp (x :: (vs ++ dvs)) H2 Q E
def tMake (C : Addr) (sp : Sp) (dvs : List V) (E : XK) (t : TA) : TE := fun σ H Q => t σ H fun vs H1 => ∀ x dx, H1 x = none → H1 dx = none → dx ≠ x →
  sp (.ref x :: (vs ++ dvs)) (upd (upd H1 dx (.own x)) x (.ins C dx [])) (fun v H2 => v = .non ∧ Q (.ref x) H2) E

def Binds (K : PySem.W.Frag) (fd : FuncData) (ps : List Str) (ds : List Value) : Prop :=
  ∀ (s : Shared) (us : List Value), K.In s.heap → (us ++ ds).length = ps.length → BindsTo s fd ⟨us, []⟩ (ps.zip (us ++ ds))
theorem Binds.all {K : PySem.W.Frag} {fd : FuncData} {ps : List Str} (h : ∀ us : List Value, us.length = ps.length → bindArgs fd ⟨us, []⟩ = pure (ps.zip us)) : Binds K fd ps [] := fun s us _ hl => by
  rw [List.append_nil] at hl ⊢
  exact .of_eq (h us hl)

def Passes (CX : CXT) (X : Cx) (E : XK) : Prop := ∀ (pins : List (Addr × Obj)) (σ : St) (H : Hp) (s : Shared) (e : Value) (s' : Shared), Inv X pins σ H s → CX X.stack H s E e s' → X.xe e s'

section
variable {X : Cx} {CX : CXT} {k : Nat} {f C : Addr} {fd : FuncData} {ps : List Str} {sp : Sp} {dvs : List V} {ds : List Value} {E : XK} {x m : Str} {p pos apos : Pos} {e o : Expr} {es : List Expr} {ta : TE} {t : TA}

theorem run_fn {pins : List (Addr × Obj)} {σ : St} {H : Hp} {s : Shared} {Q : VK} {us : List Value} {vs : List V} (F : FnOk X.prog X.w X.K X.mg X.base CX k f fd ps sp) (hr : Room k X.A) (hb : Binds X.K fd ps ds) (hd : Vals dvs ds) (hx : Passes CX X E)
    (I : Inv X pins σ H s) (r : Vals vs us) (h : sp (vs ++ dvs) H Q E) : wpAny (model X.prog X.w) X.A (call (.ref f) us) (EP X pins σ Q) X.xe s := by
  have r2 : Vals (vs ++ dvs) (us ++ ds) := r.append hd
  have hl : (us ++ ds).length = ps.length := by rw [← r2.length]; exact F.len _ _ _ _ h
  refine wpAny_call (codeAny_mono (F.run X.A X.stack s H ⟨us, []⟩ (us ++ ds) (vs ++ dvs) Q E hr I.env0 (hb s us I.kIn hl) r2 h) fun r s' hq => ?_)
  cases r with
  | error e => exact hx pins σ H s e s' I hq
  | ok fl =>
    cases fl with
    | ret u => exact I.after hq
    | next => exact False.elim hq
    | brk => exact False.elim hq
    | cont => exact False.elim hq

theorem pe_call (F : FnOk X.prog X.w X.K X.mg X.base CX k f fd ps sp) (hr : Room k X.A) (hg : Gl X x) (hm : X.mg x = some (.ref f)) (hk : PySem.W.keepIn X.K (.ref f) = true) (hb : Binds X.K fd ps ds) (hd : Vals dvs ds) (hx : Passes CX X E)
    (ha : PA X (e :: es) t) (hdb : (x == ("__debug__" : Str)) = false := by decide) (he : starEach (e :: es) X.env = (false, eval e X.env) :: starEach es X.env := by rfl) (hpl : (backTo pos (starEach es X.env)).any (·.1) = false := by rfl) :
    PE X (.Call (.Name x p) (e :: es) [] pos) (tCall sp dvs E t) := by
  intro pins s σ H Q I h
  refine wpAny_Call_Name_kw (ld_glob I hg hm ?_ hdb)
  refine PySem.W.callWith_K (h₀ := X.base) I.ok.mod.kin hk (thn (ha pos pins s σ H _ I h) fun us s1 ⟨vs, H1, I1, r, q⟩ => ⟨I1.kIn, ?_⟩) he hpl
  exact run_fn F hr hb hd hx I1 r q
structure Mk (K : PySem.W.Frag) (C f : Addr) : Prop where
  makes : PySem.W.makesIn K C = true
  init : PySem.W.findIn K (.ref C) "__init__" = some (some (.ref f))
  fn : PySem.W.isFn K (.ref f) = true
  kp : PySem.W.keepIn K (.ref C) = true

theorem run_make {pins : List (Addr × Obj)} {σ : St} {H : Hp} {s : Shared} {Q : VK} {us : List Value} {vs : List V} (M : Mk X.K C f) (F : FnOk X.prog X.w X.K X.mg X.base CX k f fd ps sp) (hr : Room (k + 1) X.A) (hb : Binds X.K fd ps ds) (hd : Vals dvs ds)
    (hx : Passes CX X E) (I : Inv X pins σ H s) (r : Vals vs us)
    (h : ∀ x dx, H x = none → H dx = none → dx ≠ x → sp (.ref x :: (vs ++ dvs)) (upd (upd H dx (.own x)) x (.ins C dx [])) (fun v H2 => v = .non ∧ Q (.ref x) H2) E) :
    wpAny (model X.prog X.w) X.A (call (.ref C) us) (EP X pins σ Q) X.xe s := by
  have hq := h (s.heap.objs.size + 1) s.heap.objs.size (I.hok.fresh (Nat.le_succ _)) (I.hok.fresh (Nat.le_refl _)) (Nat.ne_of_lt (Nat.lt_succ_self _))
  have I2 := Inv.made (C := C) I
  have r2 : Vals (V.ref (s.heap.objs.size + 1) :: (vs ++ dvs)) (Value.ref (s.heap.objs.size + 1) :: (us ++ ds)) := .cons rfl (r.append hd)
  have hl : (Value.ref (s.heap.objs.size + 1) :: us ++ ds).length = ps.length := by
    have e := r2.length
    rw [F.len _ _ _ _ hq] at e
    exact e.symm
  refine wpAny_call (make_map (f := f) I.kIn M.makes M.init (beq_iff_eq.mp M.fn) (codeAny_mono (F.run _ X.stack _ _ ⟨Value.ref (s.heap.objs.size + 1) :: us, []⟩ (Value.ref (s.heap.objs.size + 1) :: (us ++ ds)) _ _ E (hr.make C us [])
    (I2.env0.make C us []) (hb _ (Value.ref (s.heap.objs.size + 1) :: us) I2.kIn hl) r2 hq) fun r s' hq' => ?_))
  cases r with
  | error e => exact hx pins σ _ _ e s' I2 hq'
  | ok fl =>
    cases fl with
    | ret u =>
      obtain ⟨v, H', I3, rv, ev, q3⟩ := I2.after hq'
      subst ev
      exact ⟨rv, ⟨V.ref (s.heap.objs.size + 1), H', I3, rfl, q3⟩⟩
    | next => exact False.elim hq'
    | brk => exact False.elim hq'
    | cont => exact False.elim hq'
theorem pe_make (M : Mk X.K C f) (F : FnOk X.prog X.w X.K X.mg X.base CX k f fd ps sp) (hr : Room (k + 1) X.A) (hg : Gl X x) (hm : X.mg x = some (.ref C)) (hb : Binds X.K fd ps ds) (hd : Vals dvs ds) (hx : Passes CX X E)
    (ha : PA X (e :: es) t) (hdb : (x == ("__debug__" : Str)) = false := by decide) (he : starEach (e :: es) X.env = (false, eval e X.env) :: starEach es X.env := by rfl) (hpl : (backTo pos (starEach es X.env)).any (·.1) = false := by rfl) :
    PE X (.Call (.Name x p) (e :: es) [] pos) (tMake C sp dvs E t) := by
  intro pins s σ H Q I h
  refine wpAny_Call_Name_kw (ld_glob I hg hm ?_ hdb)
  refine PySem.W.callWith_K (h₀ := X.base) I.ok.mod.kin M.kp (thn (ha pos pins s σ H _ I h) fun us s1 ⟨vs, H1, I1, r, q⟩ => ⟨I1.kIn, ?_⟩) he hpl
  exact run_make M F hr hb hd hx I1 r q
end

def PK (X : Cx) (kws : List Keyword) (t : TA) : Prop :=
  ∀ (pos : Pos) (pins : List (Addr × Obj)) (s : Shared) (σ : St) (H : Hp) (Q : List V → Hp → Prop), Inv X pins σ H s → t σ H Q → wpAny (model X.prog X.w) X.A (evalAll ((backToKw pos (keywordEach kws X.env)).map (·.2))) (AP X pins σ Q) X.xe s
section
variable {X : Cx} {CX : CXT} {k : Nat} {f C : Addr} {fd : FuncData} {ps ks : List Str} {sp : Sp} {E : XK} {x m : Str} {p pos apos kpos : Pos} {e o : Expr} {es : List Expr} {kws : List Keyword} {te ta : TE} {t tk : TA} {nm : Option Str}
structure KBinds (K : PySem.W.Frag) (fd : FuncData) (ps ks : List Str) (g : List Value → List Value → List Value) (gV : List V → List V → List V) : Prop where
  to : ∀ (s : Shared) (us ws : List Value), K.In s.heap → (g us ws).length = ps.length → BindsTo s fd ⟨us, ks.zip ws⟩ (ps.zip (g us ws))
  rel : ∀ {vs : List V} {us : List Value} {zs : List V} {ws : List Value}, Vals vs us → Vals zs ws → Vals (gV vs zs) (g us ws)
def tCallK (sp : Sp) (gV : List V → List V → List V) (E : XK) (t tk : TA) : TE := fun σ H Q => t σ H fun vs H1 => tk σ H1 fun zs H2 => sp (gV vs zs) H2 Q E
variable {g : List Value → List Value → List Value} {gV : List V → List V → List V}
end

structure FnScope (N P : List Str) (sc : Scope) : Prop where
  kind : sc.kind = .function
  co : sc.isCoroutine = false
  gen : sc.isGenerator = false
  nd : N.Nodup
  pre : N.take P.length = P
  par : ∀ x ∈ P, sc.names.lookup x = some .local ∨ sc.names.lookup x = some .cell
  nofree : ∀ y ∈ sc.names, y.2 ≠ .free

theorem bindL_out {kindOf : Str → Option NameKind} {x : Str} : ∀ {binds : List (Str × Value)} {m : Str → Option Value}, (∀ v, (x, v) ∉ binds) → bindL kindOf binds m x = m x
  | [], _, _ => rfl
  | (n, v) :: r, m, h => by
    unfold bindL
    rw [bindL_out fun w hw => h w (List.mem_cons_of_mem _ hw)]
    split
    · have : x ≠ n := by rintro rfl; exact h v List.mem_cons_self
      simp [this]
    · rfl
theorem bindC_out {kindOf : Str → Option NameKind} {x : Str} : ∀ {binds : List (Str × Value)} {m : Str → Option Value}, (∀ v, (x, v) ∉ binds) → bindC kindOf binds m x = m x
  | [], _, _ => rfl
  | (n, v) :: r, m, h => by
    unfold bindC
    rw [bindC_out fun w hw => h w (List.mem_cons_of_mem _ hw)]
    split
    · rfl
    · have : x ≠ n := by rintro rfl; exact h v List.mem_cons_self
      simp [this]
theorem bindL_get {kindOf : Str → Option NameKind} {x : Str} {v : Value} : ∀ {P : List Str} {vs : List Value} {i : Nat} {m : Str → Option Value}, P.Nodup → P[i]? = some x → vs[i]? = some v → kindOf x = some .local →
    bindL kindOf (P.zip vs) m x = some v
  | [], _, _, _, _, h, _, _ => by simp at h
  | _ :: _, [], _, _, _, _, h, _ => by simp at h
  | p :: P, w :: vs, 0, m, nd, h1, h2, hk => by
    simp at h1 h2; subst h1; subst h2
    show bindL kindOf ((p, w) :: P.zip vs) m p = _
    unfold bindL
    rw [bindL_out fun v hv => (List.nodup_cons.mp nd).1 (List.of_mem_zip hv).1, if_pos hk]
    simp
  | p :: P, w :: vs, i + 1, m, nd, h1, h2, hk => by
    show bindL kindOf ((p, w) :: P.zip vs) m x = _
    unfold bindL
    exact bindL_get (i := i) (List.nodup_cons.mp nd).2 (by simpa using h1) (by simpa using h2) hk
theorem bindC_get {kindOf : Str → Option NameKind} {x : Str} {v : Value} : ∀ {P : List Str} {vs : List Value} {i : Nat} {m : Str → Option Value}, P.Nodup → P[i]? = some x → vs[i]? = some v → kindOf x ≠ some .local →
    bindC kindOf (P.zip vs) m x = some v
  | [], _, _, _, _, h, _, _ => by simp at h
  | _ :: _, [], _, _, _, _, h, _ => by simp at h
  | p :: P, w :: vs, 0, m, nd, h1, h2, hk => by
    simp at h1 h2; subst h1; subst h2
    show bindC kindOf ((p, w) :: P.zip vs) m p = _
    unfold bindC
    rw [bindC_out fun v hv => (List.nodup_cons.mp nd).1 (List.of_mem_zip hv).1, if_neg hk]
    simp
  | p :: P, w :: vs, i + 1, m, nd, h1, h2, hk => by
    show bindC kindOf ((p, w) :: P.zip vs) m x = _
    unfold bindC
    exact bindC_get (i := i) (List.nodup_cons.mp nd).2 (by simpa using h1) (by simpa using h2) hk

def start (N : List Str) (vs : List V) : St := vs.map some ++ List.replicate (N.length - vs.length) none

def cxOf (CX : CXT) (P : Program) (w : World) (K : PySem.W.Frag) (mg : Str → Option Value) (base : Heap) (N : List Str) (qual : Str) (scope : Scope) (f : Addr) (cd : Value) (A : Around) (outer : List Env) (s : Shared) (H : Hp) (E : XK) : Cx where
  prog := P
  w := w
  K := K
  mg := mg
  base := base
  A := A.deeper (envOfC qual scope s.heap.objs.size f cd)
  N := N
  s₀ := s
  H₀ := H
  env := envOfC qual scope s.heap.objs.size f cd
  outer := outer
  stack := envOfC qual scope s.heap.objs.size f cd :: outer
  ex := []
  calm := true
  fn := fun _ => true
  pn := []
  xe := fun e s' => wpAny (model P w) (A.deeper (envOfC qual scope s.heap.objs.size f cd)) (leaving (envOfC qual scope s.heap.objs.size f cd) e) (fun _ s'' => CX outer H s E e s'') (fun e' s'' => CX outer H s E e' s'') s'

theorem cell_has {sc : Scope} {n : Nat} {x : Str} (h : sc.names.lookup x = some .cell) : ∃ c, (cellsFrom n sc.names []).lookup x = some c := by
  have q := PySem.W.cellsFrom_some sc.names n [] (.inl h)
  exact Option.isSome_iff_exists.mp q

theorem inv_start {CX : CXT} {P : Program} {w : World} {K : PySem.W.Frag} {mg : Str → Option Value} {base : Heap} {N ps : List Str} {qual : Str} {scope : Scope} {f : Addr} {cd : Value} {A : Around} {outer : List Env} {s s1 : Shared} {H : Hp} {E : XK} {us : List Value} {vs : List V}
    (S : FnScope N ps scope) (hd : A.handled = none) (e0 : Env0 P w K mg base A outer s H) (hl : vs.length = ps.length) (r : Vals vs us)
    (x : InCallC s s.heap.objs.size (bindL (envOfC qual scope s.heap.objs.size f cd).kindOf (ps.zip us) fun _ => none) (cellsFrom (s.heap.objs.size + 1) scope.names []) (bindC (envOfC qual scope s.heap.objs.size f cd).kindOf (ps.zip us) fun _ => none) s1) :
    Inv (cxOf CX P w K mg base N qual scope f cd A outer s H E) [] (start N vs) H s1 := by
  have hpl : ps.length ≤ N.length := by have := congrArg List.length S.pre; rw [List.length_take] at this; omega
  obtain ⟨h1, tk, rfl, hk⟩ := x.done
  have noA : ∀ b : Addr, b ∉ (cxOf CX P w K mg base N qual scope f cd A outer s H E).ex := fun b z => absurd (show b ∈ ([] : List Addr) from z) (by simp)
  refine ⟨⟨e0.mod, S.kind, rfl, rfl, Nat.le_refl _, fun y z c h1 h2 => ?_, fun y hy => ?_, fun y c _ h => ?_, fun _ => hd, Around.frames_deeper e0.frames, .inr ⟨rfl, rfl⟩, fun b z => absurd z (noA b), e0.bs, e0.bsz, fun b _ _ => noA b, fun b z => absurd z (noA b), e0.funs, e0.frf⟩,
    rfl, e0.bare, Un.kept hk, ⟨_, x.toInCall.ns, fun i y v h1 h2 h3 => ?_⟩, fun y c h => ⟨_, x.cell y c h⟩, e0.hok.fresh (Nat.le_refl _), fun y c h => ?_, fun p hp => absurd (show p ∈ ([] : List (Addr × Obj)) from hp) (by simp), e0.hok.kept hk, ?_⟩
  · exact name_of_addr x.apart (PySem.mem_of_lookup h1) (PySem.mem_of_lookup h2)
  · have hy : scope.names.lookup y = some .cell ∨ scope.names.lookup y = some .free := hy
    rcases hy with hy | hy
    · exact cell_has hy
    · exact absurd rfl (S.nofree _ (PySem.mem_of_lookup hy))
  · exact Nat.le_of_lt (x.above y c (PySem.mem_of_lookup h))
  · have hi : i < vs.length := by
      unfold start at h2
      by_cases hi : i < vs.length
      · exact hi
      · rw [List.getElem?_append_right (by simpa using hi)] at h2
        rw [List.getElem?_replicate] at h2
        split at h2 <;> cases h2
    have ha : vs[i]? = some v := by
      unfold start at h2
      rw [List.getElem?_append_left (by simpa using hi), List.getElem?_map] at h2
      cases e : vs[i]? with
      | none => rw [e] at h2; cases h2
      | some a => rw [e] at h2; cases h2; rfl
    obtain ⟨u, hu, rv⟩ := r.get ha
    have hp : ps[i]? = some y := by
      rw [← S.pre, List.getElem?_take_of_lt (by omega)]; exact h1
    have ndP : ps.Nodup := by rw [← S.pre]; exact S.nd.sublist (List.take_sublist _ _)
    refine ⟨u, rv, ?_⟩
    rcases S.par y (List.mem_of_getElem? hp) with k | k
    · exact .inl ⟨k, bindL_get ndP hp hu k⟩
    · obtain ⟨c, e⟩ := cell_has (n := s.heap.objs.size + 1) k
      refine .inr ⟨.inl k, c, e, ?_⟩
      have q := x.cell y c e
      rw [bindC_get ndP hp hu (by show scope.names.lookup y ≠ _; rw [k]; decide)] at q
      exact q
  · exact e0.hok.fresh (Nat.le_of_lt (x.above y c (PySem.mem_of_lookup h)))
  · unfold start
    show _ = N.length
    rw [List.length_append, List.length_map, List.length_replicate]
    omega

theorem fn_of {CX : CXT} {P : Program} {w : World} {K : PySem.W.Frag} {mg : Str → Option Value} {base : Heap} {k : Nat} {f : Addr} {name qual : Str} {params : Arguments} {body : List Stmt} {scope : Scope} {dV kV doc pm cdv ct oc : Value} {an od : Option Addr}
    {osl : Array (Option Value)} {N ps : List Str} {sp : Sp} (lk : K.lookup f = some ⟨oc, od, .func (PySem.W.fnOf name qual params body scope dV kV doc pm an cdv ct), osl⟩) (hcd : PySem.W.codeIn K cdv qual = true) (S : FnScope N ps scope)
    (len : ∀ vs H Q E, sp vs H Q E → vs.length = ps.length)
    (hbody : ∀ (A : Around) (outer : List Env) (s : Shared) (H : Hp) (vs : List V) (Q : VK) (E : XK), Room k (A.deeper (envOfC qual scope s.heap.objs.size f cdv)) → sp vs H Q E →
      ∃ t, PSs (cxOf CX P w K mg base N qual scope f cdv A outer s H E) body t ∧ t { nx := fun _ H' => Q .non H', rt := Q } (start N vs) H) :
    FnOk P w K mg base CX (k + 1) f (PySem.W.fnOf name qual params body scope dV kV doc pm an cdv ct) ps sp := by
  refine ⟨len, fun A outer s H args us vs Q E hr e0 hb r hsp => ?_⟩
  have hl := len _ _ _ _ hsp
  have KX : K.In s.heap := e0.mod.kin.keeps fun b o e => (e0.bs b o e).1
  have lim : s.heap.NoLimit := e0.mod.nolimit.keeps fun b o e => (e0.bs b o e).1
  have hkind : ∀ y ∈ ps.zip us, scope.names.lookup y.1 = some .local ∨ (scope.names.lookup y.1 = some .cell ∧ ((cellsFrom (s.heap.objs.size + 1) scope.names []).lookup y.1).isSome = true) := fun ⟨n, v⟩ hy => by
    rcases S.par n (List.of_mem_zip hy).1 with q | q
    · exact .inl q
    · exact .inr ⟨q, PySem.W.cellsFrom_some _ _ _ (.inl q)⟩
  refine codeAny_call_function hr.depth (KX _ _ lk) rfl S.co S.gen rfl (PySem.W.codeRec_of KX hcd) (hb _ _ _ _ ?_)
  refine wpAny_newFunctionEnv_cells S.kind hkind fun env he s1 x => ?_
  subst he
  refine ⟨lim.keeps x.toInCall.keep, codeAny_func ?_⟩
  obtain ⟨t, ht, hq⟩ := hbody A outer s H vs Q E (hr.deeper _) hsp
  have I : Inv (cxOf CX P w K mg base N qual scope f cdv A outer s H E) [] (start N vs) H s1 := inv_start S hr.hd e0 hl r x
  refine wpAny_mono (ht [] s1 (start N vs) H _ I hq) (fun fl s' hs => ?_) fun e s' hs => hs
  have fin : ∀ {σ' : St} {H' : Hp} {v : V} {u : Value}, Inv (cxOf CX P w K mg base N qual scope f cdv A outer s H E) [] σ' H' s' → RelV v u → Q v H' → CE outer P w H s Q u s' :=
    fun {σ' H' v u} J rv q => ⟨v, H', J.os, J.bare, J.base, J.hok, rv, q⟩
  cases fl with
  | ret u =>
    obtain ⟨v, σ', H', J, rv, q⟩ := hs
    exact fin J rv q
  | next =>
    obtain ⟨σ', H', J, q⟩ := hs
    exact fin (v := V.non) (u := Value.none) J rfl q
  | brk =>
    obtain ⟨_, _, _, q⟩ := hs
    exact False.elim q
  | cont =>
    obtain ⟨_, _, _, q⟩ := hs
    exact False.elim q
end L2

namespace L2
open PySem PySem.Spec PyProof.Rows
section
variable {X : Cx} {x : Str} {p pos : Pos} {e : Expr} {es : List Expr} {t : TA} {id T : String} {r : List V → Hp → VK → Prop}

def tCB (r : List V → Hp → VK → Prop) (t : TA) : TE := fun σ H Q => t σ H fun vs H1 => r vs H1 Q
theorem pe_callB (hc : CallR X (.builtin id) r) (hg : Gl X x) (hm : X.mg x = none) (hv : bootBuiltins x = some (.builtin id)) (ha : PA X (e :: es) t) (hn : x ≠ "__name__" := by decide) (hdb : (x == ("__debug__" : Str)) = false := by decide)
    (he : starEach (e :: es) X.env = (false, eval e X.env) :: starEach es X.env := by rfl) (hpl : (backTo pos (starEach es X.env)).any (·.1) = false := by rfl) : PE X (.Call (.Name x p) (e :: es) [] pos) (tCB r t) := by
  intro pins s σ H Q I h
  refine wpAny_Call_Name_kw (ld_blt I hg hm hv ?_ hn hdb)
  exact PyProof.Rows.callWith_builtin1 (thn (ha pos pins s σ H _ I h) fun us s1 ⟨vs, H1, I1, r1, q1⟩ => hc pins s1 σ H1 vs us Q I1 r1 q1) he hpl
theorem pe_callTy (hc : CallR X (.type T) r) (hg : Gl X x) (hm : X.mg x = none) (hv : bootBuiltins x = some (.type T)) (ha : PA X (e :: es) t) (hn : x ≠ "__name__" := by decide) (hdb : (x == ("__debug__" : Str)) = false := by decide)
    (he : starEach (e :: es) X.env = (false, eval e X.env) :: starEach es X.env := by rfl) (hpl : (backTo pos (starEach es X.env)).any (·.1) = false := by rfl) : PE X (.Call (.Name x p) (e :: es) [] pos) (tCB r t) := by
  intro pins s σ H Q I h
  refine wpAny_Call_Name_kw (ld_blt I hg hm hv ?_ hn hdb)
  exact PyProof.Rows.callWith_type1 (thn (ha pos pins s σ H _ I h) fun us s1 ⟨vs, H1, I1, r1, q1⟩ => hc pins s1 σ H1 vs us Q I1 r1 q1) he hpl
end
end L2

namespace HT
open PySem PyProof.Rows

def lexLt : List Int → List Int → Bool
  | [], [] => false
  | [], _ :: _ => true
  | _ :: _, [] => false
  | x :: xs, y :: ys => if x = y then lexLt xs ys else decide (x < y)
section
open PySem.SeqAt
open PySem.AutoSeq1 (wpAny_loadPart')
open PySem.MeetsSeq PySem.MeetsSeq2 PySem.MeetsSeq3

end

section
variable {prog : Program} {w : World} {A : Around} {E : Value → Shared → Prop} {s : Shared}

def sIx (n d : Nat) : Option Int → Nat
  | none => d
  | some v => if v < 0 then (v + (n : Int)).toNat else min v.toNat n
theorem sIx_nat (n d k : Nat) : sIx n d (some (k : Int)) = min k n := by
  show (if (k : Int) < 0 then ((k : Int) + (n : Int)).toNat else min (k : Int).toNat n) = min k n
  rw [if_neg (by omega), Int.toNat_natCast]
end
end HT

namespace L2
open PySem PySem.Spec PyProof.Rows

abbrev TO := St → Hp → (Option Int → Hp → Prop) → Prop
def PO (X : Cx) (e : Option Expr) (t : TO) : Prop :=
  ∀ (pins : List (Addr × Obj)) (s : Shared) (σ : St) (H : Hp) (Q : Option Int → Hp → Prop), Inv X pins σ H s → t σ H Q →
    wpAny (model X.prog X.w) X.A (evalPart e X.env) (fun u s' => ∃ o H', Inv X pins σ H' s' ∧ IsPart u o ∧ Q o H') X.xe s
def tNoPart : TO := fun _ H Q => Q none H
def tPart (t : TE) : TO := fun σ H Q => t σ H fun x H1 => ∃ i, x = .int i ∧ Q (some i) H1

section
variable {X : Cx} {e : Expr} {te : TE} {lo hi : Option Expr} {tl th : TO} {pos p2 : Pos}

theorem po_none : PO X none tNoPart := by
  intro pins s σ H Q I h
  rw [evalPart_none]
  exact wpAny_pure ⟨none, H, I, .none, h⟩
theorem po_some (h : PE X e te) : PO X (some e) (tPart te) := by
  intro pins s σ H Q I hw
  rw [evalPart_some]
  refine thn (h pins s σ H _ I hw) fun u s1 ⟨x, H1, I1, r1, q1⟩ => ?_
  obtain ⟨i, rfl, q⟩ := q1
  obtain ⟨t, rfl⟩ := r1
  exact ⟨some i, H1, I1, .int i t, q⟩

def SlR (X : Cx) (r : V → Option Int → Option Int → Hp → VK → Prop) : Prop :=
  ∀ (pins : List (Addr × Obj)) (s : Shared) (σ : St) (H : Hp) (x : V) (v vl vu : Value) (lo hi : Option Int) (sl : Addr) (Q : VK), Inv X pins σ H s → RelV x v → s.heap.IsSliceOf sl vl vu .none → IsPart vl lo → IsPart vu hi → r x lo hi H Q →
    ∃ T id, typeLookup (.type T) "__getitem__" = pure (some (.builtin id)) ∧ s.TypeIs v T ∧ wpAny (model X.prog X.w) X.A (getItem v (.ref sl)) (EP X pins σ Q) X.xe s
def tSl (r : V → Option Int → Option Int → Hp → VK → Prop) (te : TE) (tl th : TO) : TE := fun σ H Q => te σ H fun x H1 => tl σ H1 fun l H2 => th σ H2 fun u H3 => r x l u H3 Q
theorem pe_slice {r : V → Option Int → Option Int → Hp → VK → Prop} (hr : SlR X r) (he : PE X e te) (hl : PO X lo tl) (hu : PO X hi th) : PE X (.Subscript e (.Slice lo hi none p2) pos) (tSl r te tl th) := by
  intro pins s σ H Q I h
  refine Subscript_ (thn (he pins s σ H _ I h) fun v s1 ⟨x, H1, I1, r1, q1⟩ => ?_)
  refine wpAny_Slice (thn (hl pins s1 σ H1 _ I1 q1) fun vl s2 ⟨l, H2, I2, pl, q2⟩ => thn (hu pins s2 σ H2 _ I2 q2) fun vu s3 ⟨u, H3, I3, pu, q3⟩ => ?_)
  rw [evalPart_none]
  refine wpAny_pure ?_
  have I4 : Inv X pins σ H3 { s3 with heap := s3.heap.push { cls := .type "slice", data := .fields #[vl, vu, .none] } } := I3.kept (t' := s3.toks) fun b ob q => Heap.get?_push_of_some _ q
  obtain ⟨T, id, hT, ht, hg⟩ := hr pins { s3 with heap := s3.heap.push { cls := .type "slice", data := .fields #[vl, vu, .none] } } σ H3 x v vl vu l u s3.heap.objs.size Q I4 r1 (Heap.IsSliceOf.new ..) pl pu q3
  show wpAny (model X.prog X.w) X.A (subscriptTail e (.Slice lo hi none p2) v (.ref s3.heap.objs.size)) (EP X pins σ Q) X.xe { s3 with heap := s3.heap.push { cls := .type "slice", data := .fields #[vl, vu, .none] } }
  exact tail_any (ops := [.ref s3.heap.objs.size, v]) ht hT hg (by with_unfolding_all rfl)

def cutV (xs : List V) (lo hi : Option Int) : List V := (xs.drop (HT.sIx xs.length 0 lo)).take (HT.sIx xs.length xs.length hi - HT.sIx xs.length 0 lo)
theorem cutV_length (xs : List V) (lo hi : Option Int) : (cutV xs lo hi).length ≤ xs.length := by
  unfold cutV
  rw [List.length_take, List.length_drop]
  omega
def rSlT (K : PySem.W.Frag) : V → Option Int → Option Int → Hp → VK → Prop := fun x lo hi H Q => ∃ a xs, x = .ref a ∧ SqT K H a xs ∧
  ¬ (HT.sIx xs.length 0 lo = 0 ∧ HT.sIx xs.length xs.length hi = xs.length) ∧ ∀ p, H p = none → Q (.ref p) (upd H p (.tup (cutV xs lo hi)))
def rLtT (K : PySem.W.Frag) : R2 := fun x y H Q => ∃ a b ns ms, x = .ref a ∧ y = .ref b ∧ SqT K H a (ns.map V.int) ∧ SqT K H b (ms.map V.int) ∧ Q (.bl (HT.lexLt ns ms)) H
def rCatT (K : PySem.W.Frag) : R2 := fun x y H Q => ∃ a b xs ys, x = .ref a ∧ y = .ref b ∧ SqT K H a xs ∧ SqT K H b ys ∧ xs ≠ [] ∧ xs.length + ys.length ≤ sizeLine ∧
  (ys = [] → Q (.ref a) H) ∧ (ys ≠ [] → ∀ p, H p = none → Q (.ref p) (upd H p (.tup (xs ++ ys))))
end
end L2

namespace L2
open PySem PySem.Spec PyProof.Rows

def ixN (n : Nat) (i : Int) : Option Nat := if 0 ≤ i then (if i < n then some i.toNat else none) else if -(n : Int) ≤ i then some (i + n).toNat else none
def atI {α : Type} (xs : List α) (i : Int) : Option α := (ixN xs.length i).bind fun j => xs[j]?
theorem ixN_seq {n : Nat} {i : Int} {j : Nat} (h : ixN n i = some j) : seqIndex? i n = some j ∧ j < n ∧ -(n : Int) ≤ i ∧ i < n := by
  unfold ixN at h
  by_cases h0 : 0 ≤ i
  · rw [if_pos h0] at h
    by_cases h1 : i < n
    · rw [if_pos h1] at h
      have e : i.toNat = j := Option.some.inj h
      exact ⟨by rw [seqIndex_of h0 h1, e], by omega, by omega, h1⟩
    · rw [if_neg h1] at h; cases h
  · rw [if_neg h0] at h
    by_cases h1 : -(n : Int) ≤ i
    · rw [if_pos h1] at h
      have e : (i + n).toNat = j := Option.some.inj h
      exact ⟨by rw [seqIndex_neg (by omega) h1, e], by omega, h1, by omega⟩
    · rw [if_neg h1] at h; cases h
theorem atI_get {α : Type} {xs : List α} {i : Int} {v : α} (h : atI xs i = some v) : ∃ j, seqIndex? i xs.length = some j ∧ xs[j]? = some v ∧ j < xs.length ∧ -(xs.length : Int) ≤ i ∧ i < xs.length := by
  unfold atI at h
  cases e : ixN xs.length i with
  | none => rw [e] at h; cases h
  | some j =>
    rw [e] at h
    obtain ⟨h1, h2, h3, h4⟩ := ixN_seq e
    exact ⟨j, h1, h, h2, h3, h4⟩
theorem atI_nat {α : Type} {xs : List α} {j : Nat} {v : α} (h : xs[j]? = some v) : atI xs (j : Int) = some v := by
  have hj : j < xs.length := (List.getElem?_eq_some_iff.mp h).1
  have e : ixN xs.length (j : Int) = some j := by
    unfold ixN
    rw [if_pos (by omega), if_pos (by omega)]; simp
  unfold atI; rw [e]; exact h
def PlainIx (b : Expr) : Prop := ∀ o i, subscripted b false o i = operate [o, i] (getItem o i)
def IxR (X : Cx) (r : R2) : Prop :=
  ∀ (value slice : Expr) (pins : List (Addr × Obj)) (s : Shared) (σ : St) (H : Hp) (x y : V) (v u : Value) (Q : VK), Inv X pins σ H s → RelV x v → RelV y u → r x y H Q →
    subscripted slice false v u = operate [v, u] (getItem v u) → wpAny (model X.prog X.w) X.A (subscriptTail value slice v u) (EP X pins σ Q) X.xe s
def MtR (X : Cx) (id : String) (r : V → List V → Hp → VK → Prop) : Prop :=
  ∀ (pins : List (Addr × Obj)) (s : Shared) (σ : St) (H : Hp) (x : V) (xs : List V) (v : Value) (us : List Value) (Q : VK), Inv X pins σ H s → RelV x v → Vals xs us → r x xs H Q →
    wpAny (model X.prog X.w) X.A (call (.builtin id) (v :: us)) (EP X pins σ Q) X.xe s
section
variable {X : Cx} {a b : Expr} {ta tb : TE} {pos : Pos}
theorem IxR.or {r r' : R2} (h : IxR X r) (h' : IxR X r') : IxR X (fun x y H Q => r x y H Q ∨ r' x y H Q) := by
  intro value slice pins s σ H x y v u Q I rx ry q hs
  rcases q with q | q
  · exact h value slice pins s σ H x y v u Q I rx ry q hs
  · exact h' value slice pins s σ H x y v u Q I rx ry q hs
theorem pe_ix {r : R2} (hr : IxR X r) (ha : PE X a ta) (hb : PE X b tb) (hs : PlainIx b) : PE X (.Subscript a b pos) (tOp r ta tb) := by
  intro pins s σ H Q I h
  exact Subscript_ (binT ha hb I h fun v u s2 x y H2 I2 rx ry q => hr a b pins s2 σ H2 x y v u Q I2 rx ry q (hs _ _))

def rIxL (K : PySem.W.Frag) : R2 := fun x y H Q => ∃ p xs i v, x = .ref p ∧ y = .int i ∧ SqL K H p xs ∧ atI xs i = some v ∧ Q v H
def rIxT (K : PySem.W.Frag) : R2 := fun x y H Q => ∃ p xs i v, x = .ref p ∧ y = .int i ∧ SqT K H p xs ∧ atI xs i = some v ∧ Q v H
def rIxS : R2 := fun x y H Q => ∃ z i c, x = .str z ∧ y = .int i ∧ z.length ≤ sizeLine ∧ atI z.cps.toList i = some c ∧ Q (.str ⟨#[c]⟩) H
theorem ix_list : IxR X (rIxL X.K) := by
  intro value slice pins s σ H x y v u Q I rx ry h hs
  obtain ⟨p, xs, i, z, rfl, rfl, hq, he, q⟩ := h
  cases rx
  obtain ⟨t, rfl⟩ := ry
  obtain ⟨its, r, pl, hz⟩ := I.list hq
  obtain ⟨j, h1, h2, h3, h4, h5⟩ := atI_get he
  obtain ⟨w, ew, rw'⟩ := r.get h2
  have hl := r.length
  have hn := line63
  have fin : EP X pins σ Q w s := ⟨z, H, I, rw', q⟩
  by_cases h0 : 0 ≤ i
  · have hj : i.toNat = j := by
      rw [seqIndex_of h0 h5] at h1
      exact Option.some.inj h1
    exact item_listR pl.isList h0 (by omega) (by rw [hj]; simpa using ew) fin hs
  · have hj : (i + (its.toArray.size : Int)).toNat = j := by
      rw [seqIndex_neg (by omega) h4] at h1
      rw [List.size_toArray, ← hl]
      exact Option.some.inj h1
    exact subscriptTail_builtinR (x := w) pl.isList.typeIs slot_list_getitem.lookup
      (wpAny_getItem_list_neg (Q := fun r s' => r = w ∧ EP X pins σ Q r s') pl.isList (by omega) (by rw [List.size_toArray] <;> omega) (by omega) (by rw [hj]; simpa using ew) ⟨rfl, fin⟩) hs
theorem ix_tup : IxR X (rIxT X.K) := by
  intro value slice pins s σ H x y v u Q I rx ry h hs
  obtain ⟨p, xs, i, z, rfl, rfl, hq, he, q⟩ := h
  cases rx
  obtain ⟨t, rfl⟩ := ry
  obtain ⟨its, r, pl, hz⟩ := I.tuple hq
  obtain ⟨j, h1, h2, h3, h4, h5⟩ := atI_get he
  obtain ⟨w, ew, rw'⟩ := r.get h2
  have hl := r.length
  have hn := line63
  have fin : EP X pins σ Q w s := ⟨z, H, I, rw', q⟩
  exact subscriptTail_builtinR (x := w) pl.typeIs slot_tuple_getitem.lookup
    (getItem_tuple (j := j) (Q := fun r s' => r = w ∧ EP X pins σ Q r s') pl (by omega) (by omega) (by rw [List.size_toArray, ← hl]; exact h1) (by simpa using ew) ⟨rfl, fin⟩) hs
theorem ix_str : IxR X rIxS := by
  intro value slice pins s σ H x y v u Q I rx ry h hs
  obtain ⟨z, i, c, rfl, rfl, hz, he, q⟩ := h
  obtain ⟨t, rfl⟩ := rx
  obtain ⟨t', rfl⟩ := ry
  obtain ⟨j, h1, h2, h3, h4, h5⟩ := atI_get he
  have hl : z.cps.toList.length = z.length := by simp [Str.length]
  rw [hl] at h1 h4 h5
  have hn := line63
  exact tail_any (typeIs_str s z t) slot_str_getitem.lookup (getItem_str (c := c) (by
    have e1 : decide (i < -(2 ^ 63 : Int)) = false := decide_eq_false (by omega)
    have e2 : decide (i ≥ 2 ^ 63) = false := decide_eq_false (by omega)
    rw [e1, e2, Bool.or_false]) (by rw [h1]; simpa using h2) ⟨.str ⟨#[c]⟩, H, I.tok _, ⟨_, rfl⟩, q⟩) hs
def rIx (K : PySem.W.Frag) : R2 := fun x y H Q => rIxL K x y H Q ∨ rIxT K x y H Q ∨ rIxS x y H Q
theorem ix_seq : IxR X (rIx X.K) := ix_list.or (ix_tup.or ix_str)

def rSetL : V → V → V → Hp → (Hp → Prop) → Prop := fun o i v H Q => ∃ p xs k j, o = .ref p ∧ i = .int k ∧ H p = some (.lst xs) ∧ ixN xs.length k = some j ∧ Q (upd H p (.lst (xs.set j v)))
theorem slice_bounds (lo hi : Option Int) (n : Nat) : (sliceBounds lo hi none n).1 = ((HT.sIx n 0 lo : Nat) : Int) ∧ (sliceBounds lo hi none n).2.1 = ((HT.sIx n n hi : Nat) : Int) ∧ (sliceBounds lo hi none n).2.2 = 1 := by
  refine ⟨?_, ?_, rfl⟩
  · cases lo with
    | none => simp [sliceBounds, HT.sIx]
    | some i =>
      simp only [sliceBounds, HT.sIx, Option.getD_none, show (1 : Int) > 0 by decide, if_true]
      by_cases h : i < 0
      · simp only [h, if_true] <;> omega
      · simp only [h, if_false] <;> omega
  · cases hi with
    | none => simp [sliceBounds, HT.sIx]
    | some i =>
      simp only [sliceBounds, HT.sIx, Option.getD_none, show (1 : Int) > 0 by decide, if_true]
      by_cases h : i < 0
      · simp only [h, if_true] <;> omega
      · simp only [h, if_false] <;> omega
theorem slicePick_cut (its : List Value) (lo hi : Option Int) : slicePick its.toArray lo hi none = ((its.drop (HT.sIx its.length 0 lo)).take (HT.sIx its.length its.length hi - HT.sIx its.length 0 lo)).toArray := by
  obtain ⟨h1, h2, h3⟩ := slice_bounds lo hi its.toArray.size
  unfold slicePick
  rw [h1, h2, h3]
  simp only [sliceRange_one, pick_run, List.size_toArray] <;> rfl
def rSlL (K : PySem.W.Frag) : V → Option Int → Option Int → Hp → VK → Prop := fun x lo hi H Q => ∃ a xs, x = .ref a ∧ SqL K H a xs ∧ ∀ p, H p = none → Q (.ref p) (upd H p (.lst (cutV xs lo hi)))
theorem sl_list : SlR X (rSlL X.K) := by
  intro pins s σ H x v vl vu lo hi sl Q I rx hs pl pu h
  obtain ⟨a, xs, rfl, hx, q⟩ := h
  cases rx
  obtain ⟨its, r, ht, hz⟩ := I.list hx
  have hlen := r.length
  refine ⟨"list", _, slot_list_getitem.lookup, ht.isList.typeIs, ?_⟩
  refine wpAny_getItem_list_slice ht.isList hs pl pu .none (by simp) ?_ (by rw [List.size_toArray] <;> omega)
  rw [slicePick_cut, ← hlen]
  refine ⟨.ref s.heap.objs.size, _, I.laid (t' := s.toks) (o := .lst (cutV xs lo hi)) (fun b ob q => Heap.get?_push_of_some _ q) (Nat.le_refl _) ?_, rfl, q _ (I.hok.fresh (Nat.le_refl _))⟩
  exact ⟨Nat.le_trans (cutV_length xs lo hi) hz, _, 0, (r.drop (HT.sIx xs.length 0 lo)).take (HT.sIx xs.length xs.length hi - HT.sIx xs.length 0 lo), Heap.get?_push_size _ rfl⟩

def flatV : V → Bool
  | .non => true
  | .bl _ => true
  | .int _ => true
  | .str _ => true
  | _ => false
def eqV : V → V → Bool
  | .non, .non => true
  | .bl a, .bl b => a == b
  | .bl a, .int b => (if a then 1 else 0) == b
  | .int a, .bl b => a == (if b then 1 else 0)
  | .int a, .int b => a == b
  | .str a, .str b => a == b
  | _, _ => false
def eqU (x : V) (u : Value) : Bool := match u with
  | .none => eqV .non x
  | .bool b => eqV (.bl b) x
  | .int i _ => eqV (.int i) x
  | .str z _ => eqV (.str z) x
  | _ => false
def inV (x : V) (xs : List V) : Bool := xs.any fun y => eqV y x
def rIn (K : PySem.W.Frag) (neg : Bool) : R2 := fun x y H Q => ∃ p xs, y = .ref p ∧ (SqL K H p xs ∨ SqT K H p xs) ∧ flatV x = true ∧ xs.all flatV = true ∧ Q (.bl (if neg then !inV x xs else inV x xs)) H
theorem call_len_seq : CallR X (.builtin "len") (fun xs H Q => ∃ p ys, xs = [.ref p] ∧ (SqL X.K H p ys ∨ SqT X.K H p ys) ∧ Q (.int ys.length) H) := by
  intro pins s σ H xs us Q I r h
  obtain ⟨p, ys, rfl, hq, q⟩ := h
  obtain ⟨u, rfl, rx⟩ := vals1 r
  cases rx
  have hn := line63
  rcases hq with hq | hq
  · obtain ⟨its, r', pl, hz⟩ := I.list hq
    have hlen := r'.length
    exact Calls.call_len_list pl.isList (by simp only [List.size_toArray] <;> omega) ⟨.int ys.length, H, I.tok _, ⟨s.toks + 1, by rw [List.size_toArray, hlen]⟩, q⟩
  · obtain ⟨its, r', pl, hz⟩ := I.tuple hq
    have hlen := r'.length
    exact len_tuple pl (by simp only [List.size_toArray] <;> omega) ⟨.int ys.length, H, I.tok _, ⟨s.toks + 1, by rw [List.size_toArray, hlen]⟩, q⟩
theorem call_len_str : CallR X (.builtin "len") (fun xs H Q => ∃ z, xs = [.str z] ∧ z.length ≤ sizeLine ∧ Q (.int z.length) H) := by
  intro pins s σ H xs us Q I r h
  obtain ⟨z, rfl, hz, q⟩ := h
  obtain ⟨u, rfl, t, rfl⟩ := vals1 r
  have hn := line63
  exact len_str (by omega) ⟨.int z.length, H, I.tok _, ⟨_, rfl⟩, q⟩
def tyV (K : PySem.W.Frag) (T : String) (x : V) (H : Hp) : Prop := match x with
  | .str _ => T = "str"
  | .int _ => T = "int"
  | .ref p => (T = "list" ∧ ∃ xs, SqL K H p xs) ∨ (T = "tuple" ∧ ∃ o, K.lookup p = some o ∧ o.cls = .type "tuple" ∧ o.dict = none) ∨
      (T = "dict" ∧ ((∃ kvs, H p = some (.dK kvs)) ∨ ∃ kvs, H p = some (.dT kvs))) ∨ (T = "set" ∧ ∃ S n, H p = some (.set S n))
  | _ => False
def tBM0 (K : PySem.W.Frag) (T : String) (r : V → List V → Hp → VK → Prop) (to : TE) : TE := fun σ H Q => to σ H fun x H1 => tyV K T x H1 ∧ r x [] H1 Q
def tBM (K : PySem.W.Frag) (T : String) (r : V → List V → Hp → VK → Prop) (to : TE) (t : TA) : TE := fun σ H Q => to σ H fun x H1 => tyV K T x H1 ∧ t σ H1 fun xs H2 => r x xs H2 Q
variable {o e : Expr} {es : List Expr} {to : TE} {t : TA} {name : Str} {apos cpos : Pos} {T id : String} {r : V → List V → Hp → VK → Prop}
/- xs.append(e), list.index on a module's tuple .. are MtR facts of 06m -/
end
end L2

namespace L2
open PySem PySem.Spec PyProof.Rows

def MtM (X : Cx) (id : String) (r : V → List V → Hp → VK → Prop) : Prop :=
  ∀ (pins : List (Addr × Obj)) (s : Shared) (σ : St) (H : Hp) (x : V) (xs : List V) (v : Value) (us : List Value) (Q : VK), Inv X pins σ H s → RelV x v → Vals xs us → r x xs H Q →
    wpAny (model X.prog X.w) X.A (call (.builtin id) (v :: us)) (EP X pins σ Q) X.xe s

theorem Vals.one : ∀ {x : V} {us : List Value}, Vals [x] us → ∃ u, us = [u] ∧ RelV x u
  | _, _, .cons r .nil => ⟨_, rfl, r⟩
section
variable {X : Cx} {pins : List (Addr × Obj)} {σ : St} {H : Hp} {s : Shared} {l b : Addr} {xs ys zs : List V}

theorem Inv.lset {its its' : List Value} {n : Nat} {f : Array Value → Array Value} {t' : Nat} (I : Inv X pins σ H s) (hH : H l = some (.lst xs))
    (e : s.heap.get? l = some { cls := .type "list", data := .seq its.toArray n }) (hf : f its.toArray = its'.toArray) (hv : Vals ys its') (hz : ys.length ≤ sizeLine) :
    Inv X pins σ (upd H l (.lst ys)) { s with heap := s.heap.update l (Obj.mapSeq f), toks := t' } := by
  have q := PySem.IsL.update e f
  rw [hf] at q
  refine I.write (x := l) (e := l) (by rw [hH]; exact trivial) (.inl rfl) (fun b' u hb hu => (Heap.get?_update_other s.heap (Obj.mapSeq f) (Ne.symm hb)).trans hu) ⟨_, q⟩ ?_
  exact ⟨hz, its', _, hv, q⟩
theorem Inv.lnew {its : List Value} {t' : Nat} (I : Inv X pins σ H s) (hv : Vals ys its) (hz : ys.length ≤ sizeLine) :
    Inv X pins σ (upd H s.heap.objs.size (.lst ys)) { s with heap := s.heap.push { cls := .type "list", data := .seq its.toArray }, toks := t' } :=
  I.laid (fun _ _ q => Heap.get?_push_of_some _ q) (Nat.le_refl _) ⟨hz, its, 0, hv, Heap.get?_push_size _ rfl⟩
theorem Inv.fresh (I : Inv X pins σ H s) : H s.heap.objs.size = none := I.hok.fresh (Nat.le_refl _)
theorem Inv.lstM (I : Inv X pins σ H s) (hH : H l = some (.lst xs)) : xs.length ≤ sizeLine ∧ ∃ (its : List Value) (n : Nat), Vals xs its ∧ xs.length = its.length ∧ s.heap.get? l = some { cls := .type "list", data := .seq its.toArray n } := by
  obtain ⟨z, its, n, r, e⟩ := I.hok l _ hH
  exact ⟨z, its, n, r, r.length, e⟩

theorem notLongL {n : Nat} (h : n ≤ sizeLine) : Builtin.List.listTooLong n = false := by
  unfold Builtin.List.listTooLong
  exact decide_eq_false (by omega)
end

section
variable {X : Cx}

def rAppend : V → List V → Hp → VK → Prop := fun x vs H Q => ∃ l xs y, x = .ref l ∧ vs = [y] ∧ H l = some (.lst xs) ∧ xs.length < sizeLine ∧ Q .non (upd H l (.lst (xs ++ [y])))
def rExtend : V → List V → Hp → VK → Prop := fun x vs H Q => ∃ l b xs zs, x = .ref l ∧ vs = [.ref b] ∧ H l = some (.lst xs) ∧ H b = some (.lst zs) ∧ xs.length + zs.length ≤ sizeLine ∧ Q .non (upd H l (.lst (xs ++ zs)))
theorem mt_extend : MtM X "list.extend" rExtend := by
  intro pins s σ H x vs v us Q I rx rv h
  obtain ⟨l, b, xs, zs, rfl, rfl, hH, hB, hz, q⟩ := h
  cases rx
  obtain ⟨u, rfl, ru⟩ := rv.one
  cases ru
  obtain ⟨z, its, n, r, hl, e⟩ := I.lstM hH
  obtain ⟨z2, its2, n2, r2, hl2, e2⟩ := I.lstM hB
  have hsz : its.toArray.size + its2.toArray.size ≤ sizeLine := by rw [List.size_toArray, List.size_toArray]; omega
  have hlong : ¬ (!its.toArray.isEmpty && Builtin.List.listTooLong (its.toArray.size + its2.toArray.size)) = true := by
    rw [notLongL hsz, Bool.and_false]
    exact Bool.false_ne_true
  refine call_meets F.slot_list_extend ⟨_, e, rfl⟩ F.entry_list_extend (F.args_list_extend_2 _ _)
    (AutoSeq1.list_extend_list_list_0 l its.toArray n b its2.toArray n2 hlong (by rw [List.size_toArray]; omega) (by omega)) ⟨e, e2, ?_⟩
  refine ⟨.non, _, I.lset (its' := its ++ its2) hH e (by simp) (r.append r2) ?_, rfl, q⟩
  rw [List.length_append]
  omega

def rPop : V → List V → Hp → VK → Prop := fun x vs H Q => ∃ l xs y, x = .ref l ∧ vs = [] ∧ H l = some (.lst xs) ∧ xs[xs.length - 1]? = some y ∧ Q y (upd H l (.lst xs.dropLast))
def rPopAt : V → List V → Hp → VK → Prop := fun x vs H Q => ∃ l xs i k y, x = .ref l ∧ vs = [.int i] ∧ H l = some (.lst xs) ∧ -(2 ^ 63) ≤ i ∧ i < 2 ^ 63 ∧ seqIndex? i xs.length = some k ∧ xs[k]? = some y ∧ Q y (upd H l (.lst (xs.eraseIdx k)))
def rReverse : V → List V → Hp → VK → Prop := fun x vs H Q => ∃ l xs, x = .ref l ∧ vs = [] ∧ H l = some (.lst xs) ∧ Q .non (upd H l (.lst xs.reverse))
def rClear : V → List V → Hp → VK → Prop := fun x vs H Q => ∃ l xs, x = .ref l ∧ vs = [] ∧ H l = some (.lst xs) ∧ Q .non (upd H l (.lst []))
def rCat : R2 := fun x y H Q => ∃ l b xs zs, x = .ref l ∧ y = .ref b ∧ H l = some (.lst xs) ∧ H b = some (.lst zs) ∧ xs.length + zs.length ≤ sizeLine ∧ ∀ p, H p = none → Q (.ref p) (upd H p (.lst (xs ++ zs)))
theorem op_cat : OpR X (binaryOp .Add) rCat := by
  intro pins s σ H x y v u Q I rx ry h
  obtain ⟨l, b, xs, zs, rfl, rfl, hH, hB, hz, q⟩ := h
  cases rx
  cases ry
  obtain ⟨z, its, n, r, hl, e⟩ := I.lstM hH
  obtain ⟨z2, its2, n2, r2, hl2, e2⟩ := I.lstM hB
  refine PySem.P.add_list e e2 ?_ (by rw [List.size_toArray, List.size_toArray]; omega)
  have ea : its.toArray ++ its2.toArray = (its ++ its2).toArray := by simp
  rw [ea]
  exact ⟨.ref _, _, I.lnew (t' := s.toks) (r.append r2) (by rw [List.length_append]; omega), rfl, q _ I.fresh⟩
def rRep : R2 := fun x y H Q => ∃ l k xs, x = .ref l ∧ y = .int k ∧ H l = some (.lst xs) ∧ -(2 ^ 63) ≤ k ∧ k < 2 ^ 63 ∧ xs.length * k.toNat ≤ sizeLine ∧
  ∀ p, H p = none → Q (.ref p) (upd H p (.lst (List.replicate k.toNat xs).flatten))
end

section
variable {prog : Program} {w : World} {A : Around} {E : Value → Shared → Prop} {s : Shared}
set_option maxRecDepth 100000 in
end

section
variable {X : Cx}
end
end L2

namespace L2
open PySem PySem.Spec PyProof.Rows

section
variable {κ : Type} [DecidableEq κ]
def valV (kvs : List (κ × V)) (k : κ) : Option V := (kvs.find? fun kv => decide (kv.1 = k)).map (·.2)
def putK (kvs : List (κ × V)) (k : κ) (v : V) : List (κ × V) :=
  if (kvs.any fun kv => decide (kv.1 = k)) = true then kvs.map (fun kv => if kv.1 = k then (kv.1, v) else kv) else kvs ++ [(k, v)]
def dropK (kvs : List (κ × V)) (k : κ) : List (κ × V) := kvs.filter fun kv => decide (kv.1 ≠ k)

end


abbrev KT (H : Hp) : List (List Key × V) → List (List Key × Addr × Value) → Prop := Paired fun p q => p.1 = q.1 ∧ H q.2.1 = some (.tup (p.1.map kV)) ∧ RelV p.2 q.2.2
section
variable {P : Program} {w : World} {H : Hp} {h : Heap} {a : Addr}
end

def DGet (H : Hp) (a : Addr) (y : V) (r : Option V) : Prop :=
  (∃ kvs k, Rd H a (.dK kvs) ∧ y = kV k ∧ r = valV kvs k) ∨ ∃ kvs k b, Rd H a (.dT kvs) ∧ y = .ref b ∧ H b = some (.tup (k.map kV)) ∧ r = valV kvs k
def DPut (H : Hp) (a : Addr) (y v : V) (H' : Hp) : Prop :=
  (∃ kvs k, H a = some (.dK kvs) ∧ y = kV k ∧ kvs.length < sizeLine ∧ H' = upd H a (.dK (putK kvs k v))) ∨
  ∃ kvs k b, H a = some (.dT kvs) ∧ y = .ref b ∧ H b = some (.tup (k.map kV)) ∧ kvs.length < sizeLine ∧ H' = upd H a (.dT (putK kvs k v))
section
variable {X : Cx} {pins : List (Addr × Obj)} {σ : St} {H : Hp} {s : Shared} {a : Addr} {y v : V} {u r : Value} {o : Option V} {A : Around} {E : Value → Shared → Prop}

end

section
variable {X : Cx} {pins : List (Addr × Obj)} {σ : St} {H : Hp} {s : Shared} {a : Addr} {kvs : List (Key × V)} {k : Key} {u : Value} {A : Around} {E : Value → Shared → Prop}
end


def NoSl (i : Expr) : Prop := ∀ ov iv, subscripted i false ov iv = operate [ov, iv] (getItem ov iv)
def tDGet (td ty : TE) : TE := fun σ H Q => td σ H fun x H1 => ty σ H1 fun y H2 => ∃ a v, x = .ref a ∧ DGet H2 a y (some v) ∧ Q v H2
def tDIn (ty td : TE) : TE := fun σ H Q => ty σ H fun y H1 => td σ H1 fun x H2 => ∃ a o, x = .ref a ∧ DGet H2 a y o ∧ Q (.bl o.isSome) H2
def tDNotIn (ty td : TE) : TE := fun σ H Q => ty σ H fun y H1 => td σ H1 fun x H2 => ∃ a o, x = .ref a ∧ DGet H2 a y o ∧ Q (.bl (!o.isSome)) H2
def sDPut (td ty tv : TE) : TS := fun D σ H => tv σ H fun v H1 => td σ H1 fun x H2 => ty σ H2 fun y H3 => ∃ a H4, x = .ref a ∧ DPut H3 a y v H4 ∧ D.nx σ H4
def sDAug (td ty tv : TE) (rd : V → V → Hp → VK → Prop) : TS := fun D σ H => td σ H fun x H1 => ty σ H1 fun y H2 => ∃ a v, x = .ref a ∧ DGet H2 a y (some v) ∧
  tv σ H2 fun y2 H3 => rd v y2 H3 fun z H4 => ∃ H5, DPut H4 a y z H5 ∧ D.nx σ H5
def sDDel (td ty : TE) : TS := fun D σ H => td σ H fun x H1 => ty σ H1 fun y H2 => ∃ a kvs k, x = .ref a ∧ H2 a = some (.dK kvs) ∧ y = kV k ∧ (valV kvs k).isSome = true ∧ D.nx σ (upd H2 a (.dK (dropK kvs k)))

section
variable {X : Cx} {o i e value : Expr} {pos pos' tpos : Pos} {td ty tv : TE}
end


def tDNewK : TE := fun _ H Q => ∀ p, H p = none → Q (.ref p) (upd H p (.dK []))
def tDNewT : TE := fun _ H Q => ∀ p, H p = none → Q (.ref p) (upd H p (.dT []))
section
variable {X : Cx} {pos : Pos}
end

def tPairs : List (TE × TE) → St → Hp → (List (V × V) → Hp → Prop) → Prop
  | [], _, H, Q => Q [] H
  | (tk, tv) :: r, σ, H, Q => tk σ H fun x H1 => tv σ H1 fun y H2 => tPairs r σ H2 fun ps H3 => Q ((x, y) :: ps) H3
abbrev VV : List (V × V) → List (Value × Value) → Prop := Paired fun p q => RelV p.1 q.1 ∧ RelV p.2 q.2
def PPs (X : Cx) (pos : Pos) (keys : List (Option Expr)) (values : List Expr) (trs : List (TE × TE)) : Prop :=
  ∀ (pins : List (Addr × Obj)) (s : Shared) (σ : St) (H : Hp) (Q : List (V × V) → Hp → Prop), Inv X pins σ H s → tPairs trs σ H Q →
    wpAny (model X.prog X.w) X.A (evalPairs (pairTrees keys values X.env pos)) (fun vs s' => ∃ ps H', Inv X pins σ H' s' ∧ VV ps vs ∧ Q ps H') X.xe s
def mergeK (kvs more : List (Key × V)) : List (Key × V) := more.foldl (fun acc kv => putK acc kv.1 kv.2) kvs
def tDisp (trs : List (TE × TE)) : TE := fun σ H Q => ∀ p, H p = none → tPairs trs σ (upd H p (.dK [])) fun ps H2 => H2 p = some (.dK []) ∧ ∃ kvs : List (Key × V), ps = kvs.map (fun kv => (kV kv.1, kv.2)) ∧ kvs.length ≤ 15 ∧ Q (.ref p) (upd H2 p (.dK (mergeK [] kvs)))
structure M1 (X : Cx) (o : Expr) (m : Str) (apos : Pos) (e : Expr) (cpos : Pos) : Prop where
  base : attributeBase o m X.env (eval o X.env) = eval o X.env
  few : ((backTo cpos (starEach [e] X.env)).all (fun x => !x.1) && (backToKw cpos (keywordEach [] X.env)).all (fun x => x.1.isSome)
    && decide (([e] : List Expr).length + ([] : List Keyword).length + (if ([] : List Keyword).isEmpty then 0 else 1) < 30)) = true
  line : (apos.endLine == cpos.line) = true
  trees : backTo cpos (starEach [e] X.env) = [(false, eval e X.env)]
structure M2 (X : Cx) (o : Expr) (m : Str) (apos : Pos) (e f : Expr) (cpos : Pos) : Prop where
  base : attributeBase o m X.env (eval o X.env) = eval o X.env
  few : ((backTo cpos (starEach [e, f] X.env)).all (fun x => !x.1) && (backToKw cpos (keywordEach [] X.env)).all (fun x => x.1.isSome)
    && decide (([e, f] : List Expr).length + ([] : List Keyword).length + (if ([] : List Keyword).isEmpty then 0 else 1) < 30)) = true
  line : (apos.endLine == cpos.line) = true
  trees : backTo cpos (starEach [e, f] X.env) = [(false, eval e X.env), (false, eval f X.env)]

def IsD (H : Hp) (a : Addr) : Prop := (∃ kvs, Rd H a (.dK kvs)) ∨ ∃ kvs, Rd H a (.dT kvs)
section
variable {X : Cx} {pins : List (Addr × Obj)} {σ : St} {H : Hp} {s : Shared} {a : Addr} {y d : V} {u r : Value} {o : Option V} {A : Around} {E : Value → Shared → Prop}
end

def tDGet1 (td ty : TE) : TE := fun σ H Q => td σ H fun x H1 => ∃ a, x = .ref a ∧ IsD H1 a ∧ ty σ H1 fun y H2 => ∃ o, DGet H2 a y o ∧ Q (o.getD .non) H2
def tDGet2 (td ty tx : TE) : TE := fun σ H Q => td σ H fun x H1 => ∃ a, x = .ref a ∧ IsD H1 a ∧ ty σ H1 fun y H2 => tx σ H2 fun z H3 => ∃ o, DGet H3 a y o ∧ Q (o.getD z) H3
def tDPop1 (td ty : TE) : TE := fun σ H Q => td σ H fun x H1 => ∃ a, x = .ref a ∧ IsD H1 a ∧ ty σ H1 fun y H2 => ∃ kvs k v, H2 a = some (.dK kvs) ∧ y = kV k ∧ valV kvs k = some v ∧ Q v (upd H2 a (.dK (dropK kvs k)))
def tDPop2 (td ty tx : TE) : TE := fun σ H Q => td σ H fun x H1 => ∃ a, x = .ref a ∧ IsD H1 a ∧ ty σ H1 fun y H2 => tx σ H2 fun z H3 => ∃ kvs k, H3 a = some (.dK kvs) ∧ y = kV k ∧
  (∀ v, valV kvs k = some v → Q v (upd H3 a (.dK (dropK kvs k)))) ∧ (valV kvs k = none → Q z H3)
section
variable {X : Cx} {o e f : Expr} {apos cpos : Pos} {td ty tx : TE}
end

section
variable {X : Cx} {pins : List (Addr × Obj)} {σ : St} {H : Hp} {s : Shared} {a : Addr} {kvs : List (Key × V)} {A : Around} {E : Value → Shared → Prop}
end


section
variable {X : Cx} {pins : List (Addr × Obj)} {σ : St} {H : Hp} {s : Shared} {a : Addr} {y : V} {u : Value} {A : Around} {E : Value → Shared → Prop}
end
end L2

namespace Att
open PySem PySem.W PySem.Calls PyProof.Rows

theorem ints_of_wellAll {P : Params} {h : Heap} : ∀ (ns : List Int) (vs : List Value), WellAll P h vs (ns.map WData.int) → IntsAre vs ns := by
  intro ns
  induction ns with
  | nil =>
    intro vs w
    rw [List.map_nil] at w
    cases w
    exact .nil
  | cons n ns ih =>
    intro vs w
    rw [List.map_cons] at w
    cases w with
    | cons a b =>
      cases a
      exact .cons _ _ (ih _ b)

theorem script_of {l : OpenLaw} {n : Nat} (hn : l.most = some n) {P : Params} {h : Heap} {args : List WData} {vals : List Value}
    (hpre : l.row.toRowW.claim.pre args = true) (hwl : WellAll P h vals args) :
    ∃ a vs ns, vals = [Value.ref a] ∧ args = [WData.list (ns.map WData.int)] ∧ h.get? a = some { cls := .type "list", data := .seq vs.toArray } ∧ IntsAre vs ns ∧ ns.length ≤ n := by
  have hsh : WShape.hasAll [] args [.list .int] = true := (pre_splitW hpre).1
  have hc : l.pre.holds [] { args := args } = true := (pre_splitW hpre).2
  obtain ⟨d, r, rfl, h1, h2⟩ := hasAllW_cons hsh
  obtain rfl := hasAllW_nil h2
  obtain ⟨xs, rfl, h3⟩ := hasW_list h1
  obtain ⟨ns, rfl⟩ := items_int h3
  have hlen : ns.length ≤ n := by
    unfold OpenLaw.pre at hc
    have h4 : (WTm.not (.lt (.lit (.int (n : Int))) (.len (.arg 0)))).holds [] { args := [.list (ns.map .int)] } = true := by
      have h4 := (holds_andW hc).1
      rw [hn] at h4
      exact h4
    have h5 := condW_of h4 (w_not (w_lt w_lit (w_len_list (w_arg rfl))))
    rw [List.length_map] at h5
    refine Nat.le_of_not_lt fun q => ?_
    have q' : (n : Int) < ((ns.length : Nat) : Int) := by omega
    first
      | (rw [decide_eq_true q'] at h5; exact absurd h5 (by decide))
      | (simp at h5; omega)
  cases hwl with
  | cons w1 w2 =>
    cases w2
    cases w1 with
    | list ho hall => exact ⟨_, _, ns, rfl, rfl, ho, ints_of_wellAll ns _ hall, hlen⟩

theorem post_true (l : OpenLaw) (args : List WData) : l.row.toRowW.claim.post args (.bool true) args = true :=
  postW_of (r := l.row.toRowW) (X := (true == true))
    (show WShape.has [] (.bool true) .bool = true by first | rfl | decide | simp [WShape.has, WShape.arms, WShape.armsAll])
    (show (WTm.eq .res (.lit (.bool true))).value [] { args := args, res := some (.bool true), after := args } = some (.bool (true == true)) from w_eq_bool (w_res rfl) w_lit) rfl

theorem attach_call {l : OpenLaw} {n : Nat} {q : Program} {loose : List Str} {XP : (Str → Option Value) → Heap → Prop} {YP : World → Heap → Prop} {d : DefRec}
    (hn : l.most = some n) (hdf : d.params.defaults = [])
    (call : ∀ (w : World) (s₀ s₁ : Shared) (mg mb : Str → Option Value) (fa : Addr) (o : Obj) (pm cd doc : Value) (a : Addr) (vs : List Value) (ns : List Int),
      Ground q loose [] XP w s₀ mg mb s₁.heap → YP w s₁.heap →
      s₁.heap.get? fa = some o → o.data = .func (docDef d.name d.params d.body d.scope pm cd doc) → s₁.heap.CodeRec cd d.name → mg d.name = some (.ref fa) →
      s₁.heap.get? a = some { cls := .type "list", data := .seq vs.toArray } → IntsAre vs ns → ns.length ≤ n → s₁.gens = #[] →
      codeAny (model l.prog w) callerA (.call (.ref fa) ⟨[.ref a], []⟩) (fun r s' => r = .ok (.ret (.bool true)) ∧ OldK s₁.heap s'.heap ∧ s'.os = s₁.os ∧ AllBare s'.gens) s₁) :
    WalkO q loose XP YP l.row.toRowW d [] (fun f vs => PySem.call f vs) := by
  intro w s₀ s₁ mg mb G Y fa o pm cd doc dV kV ho hd hcd hD hmg hg args vals as hpre hlay hrd hwl hlo
  obtain rfl : dV = .none := Dflts.none hD hdf
  obtain rfl : kV = .none := Dflts.noKw hD
  obtain ⟨a, vs, ns, rfl, rfl, hobj, hints, hlen⟩ := script_of hn hpre hwl
  refine enter_call (codeAny_mono (call w s₀ s₁ mg mb fa o pm cd doc a vs ns G Y ho (fd_plain hd) hcd hmg hobj hints hlen hg) fun r s' hq => ?_)
  obtain ⟨rfl, h2, h3, h4⟩ := hq
  exact ⟨.inl ⟨.bool true, .bool true, [], rfl, fun _ => rfl, .bool true, post_true l _, fun _ => ⟨List.Pairwise.nil, fun _ hm => (nomatch hm)⟩⟩, h2, h3, h4⟩

section
variable {prog : Program} {w : World} {A : Around} {E : Value → Shared → Prop} {s : Shared} {K : Frag}

def noObjs (h : Heap) : Heap := { h with objs := #[] }
def ledger (h : Heap) (L d : Addr) : List (Addr × Obj) := (List.range h.objs.size).filterMap fun a => if a = L ∨ a = d then none else (h.get? a).map fun o => (a, o)
end
end Att

namespace L2
open PySem PySem.Spec PyProof.Rows

theorem vals_ints : ∀ {vs : List Value} {ns : List Int}, IntsAre vs ns → Vals (ns.map V.int) vs
  | _, _, .nil => .nil
  | _, _, .cons n t h => .cons ⟨t, rfl⟩ (vals_ints h)

def Only (H : Hp) : Prop := ∀ b, H b = none ∨ ∃ o xs, H b = some (.frz o (.lst xs))

theorem law_call {P : Program} {w : World} {K : PySem.W.Frag} {mg mb : Str → Option Value} {CX : CXT} {k : Nat} {fa a : Addr} {fd : FuncData} {x : Str} {sp : Sp} {s₁ : Shared} {vs : List Value} {ns : List Int}
    (KX : K.In s₁.heap) (hns : s₁.heap.Ns mainGlobals mg) (hb : s₁.heap.Ns builtinsNs mb) (hbb : ∀ x : Str, x ≠ "__name__" → mb x = bootBuiltins x) (hlim : s₁.heap.NoLimit) (hg : s₁.gens = #[])
    (ha : s₁.heap.get? a = some { cls := .type "list", data := .seq vs.toArray }) (hi : IntsAre vs ns) (hl : ns.length ≤ sizeLine) (hr : Room k callerA)
    (F : ∀ base : Heap, K.In base → base.Ns mainGlobals mg → FnOk P w K mg base CX k fa fd [x] sp) (hbind : ∀ (s : Shared) (u : Value), BindsTo s fd ⟨[u], []⟩ [(x, u)])
    (hsp : ∀ H : Hp, Only H → SqL K H a (ns.map V.int) → sp [.ref a] H (fun v _ => v = .bl true) fun _ _ _ => False)
    (hCX : ∀ H e s', CX [] H s₁ (fun _ _ _ => False) e s' → False) :
    codeAny (model P w) callerA (.call (.ref fa) ⟨[.ref a], []⟩) (fun r s' => r = .ok (.ret (.bool true)) ∧ OldK s₁.heap s'.heap ∧ s'.os = s₁.os ∧ AllBare s'.gens) s₁ := by
  have rv := vals_ints hi
  have lenV := hi.length
  -- from an abstract heap in which nothing but the script may be tracked
  have core : ∀ H : Hp, Only H → SqL K H a (ns.map V.int) → HOk P w H s₁.heap → (∀ b, H b ≠ none → b = a) → (H a ≠ none → K.lookup a = none) →
      codeAny (model P w) callerA (.call (.ref fa) ⟨[.ref a], []⟩) (fun r s' => r = .ok (.ret (.bool true)) ∧ OldK s₁.heap s'.heap ∧ s'.os = s₁.os ∧ AllBare s'.gens) s₁ := by
    intro H hO hS hok hA hK
    have base_of : ∀ {b : Addr} {o : Obj}, s₁.heap.get? b = some o → H b = none → (hidT s₁.heap H).get? b = some o := fun e n => hidT_get e n
    have noA : ∀ {b : Addr} {o : Obj} {es : Array DictEntry} {ep : Nat}, s₁.heap.get? b = some o → o.data = .dict es ep → H b = none := fun {b o es ep} e d => by
      cases q : H b with
      | none => rfl
      | some u =>
        have e' : b = a := hA b (by rw [q]; simp)
        subst e'
        rw [ha] at e; cases e
        have d' : Data.seq vs.toArray _ = Data.dict es ep := d
        cases d'
    have nsK : ∀ {b : Addr} {m : Str → Option Value}, s₁.heap.Ns b m → (hidT s₁.heap H).Ns b m := fun {b m} ⟨o, es, ep, e, d, r⟩ => ⟨o, es, ep, base_of e (noA e d), d, r⟩
    have hKb : K.In (hidT s₁.heap H) := fun b o e => base_of (KX b o e) (by
      cases q : H b with
      | none => rfl
      | some u =>
        have e' : b = a := hA b (by rw [q]; simp)
        subst e'
        rw [hK (by rw [q]; simp)] at e; cases e)
    have hM : Mod K mg (hidT s₁.heap H) := ⟨hKb, nsK hns, ⟨mb, nsK hb, hbb⟩, let ⟨mc, h1, h2⟩ := hlim; ⟨mc, nsK h1, h2⟩⟩
    have e0 : Env0 P w K mg (hidT s₁.heap H) callerA [] s₁ H := ⟨rfl, hM, fun b o e => of_hidT e, Nat.le_of_eq (hidT_size _ _), trivial, fun b hb => absurd (show b ∈ ([] : List Addr) from hb) (by simp), hok, .of_eq hg⟩
    refine codeAny_mono ((F _ hKb (nsK hns)).run callerA [] s₁ H ⟨[.ref a], []⟩ [.ref a] [.ref a] _ _ hr e0 (hbind s₁ (.ref a)) (.cons rfl .nil) (hsp H hO hS)) fun r s' h => ?_
    cases r with
    | error e => exact (hCX H e s' h).elim
    | ok fl =>
      cases fl with
      | next => exact False.elim h
      | brk => exact False.elim h
      | cont => exact False.elim h
      | ret u =>
        obtain ⟨v, H', os, bare, un, hok', r', q⟩ := h
        have q' : v = .bl true := q
        subst q'
        obtain rfl : u = Value.bool true := r'
        refine ⟨rfl, OldK.of_keep fun b o e => ?_, os, bare⟩
        cases q : H b with
        | none => exact un.keep b o e q (by intro z; exact absurd (show b ∈ ([] : List Addr) from z) (by simp)) (by simp)
        | some u =>
          rcases hO b with z | ⟨ob, xs, z⟩
          · rw [q] at z; cases z
          · have z2 := un.frzs b ob _ z
            obtain ⟨e1, _⟩ := hok b _ z
            obtain ⟨e2, _⟩ := hok' b _ z2
            rw [e] at e1; cases e1
            exact e2
  cases hk : K.lookup a with
  | some o =>
    -- the script is one of the module's own objects
    have e := KX a o hk
    rw [ha] at e
    cases e
    refine core (fun _ => none) (fun _ => .inl rfl) (.inr ⟨_, vs.toArray, _, hk, rfl, rfl, rfl, by rw [List.size_toArray, lenV]; exact hl, by simpa using rv⟩) (fun b u z => by have z' : (none : Option HO) = some u := z; cases z') (fun b z => absurd rfl z) fun z => absurd rfl z
  | none =>
    refine core (fun b => if b = a then some (.frz { cls := .type "list", data := .seq vs.toArray } (.lst (ns.map V.int))) else none) (fun b => ?_) (.inl (.inr ⟨{ cls := .type "list", data := .seq vs.toArray }, if_pos rfl⟩)) (fun b u z => ?_) (fun b z => ?_) fun _ => hk
    · by_cases hb : b = a
      · exact .inr ⟨_, _, if_pos hb⟩
      · exact .inl (if_neg hb)
    · by_cases hb : b = a
      · have z' := (if_pos hb).symm.trans z
        cases z'
        subst hb
        exact ⟨ha, by rw [List.length_map]; exact hl, vs, _, rv, ha⟩
      · have z' := (if_neg hb).symm.trans z
        cases z'
    · by_cases hb : b = a
      · exact hb
      · exact absurd (if_neg hb) z
end L2

namespace L2
open PySem PySem.Spec PyProof.Rows

abbrev KOf {K : PySem.W.Frag} {h : Heap} (_ : K.In h) : PySem.W.Frag := K

theorem walk_of {l : PySem.W.OpenLaw} {n k : Nat} {q : Program} {loose : List Str} {XP : (Str → Option Value) → Heap → Prop} {YP : World → Heap → Prop} {d : DefRec} {K : Params → PySem.W.Frag} {CX : World → CXT} {sp : World → Sp} {x : Str}
    (hn : l.most = some n) (hn2 : n ≤ sizeLine) (hdf : d.params.defaults = []) (hr : Room k callerA)
    (hY : ∀ (w : World) (h : Heap), YP w h → (K w.params).In h)
    (F : ∀ (w : World) (mg : Str → Option Value) (fa : Addr) (h : Heap), (K w.params).In h → h.Ns mainGlobals mg → mg d.name = some (.ref fa) →
      ∃ fd : FuncData, (∀ (s : Shared) (u : Value), BindsTo s fd ⟨[u], []⟩ [(x, u)]) ∧
        ∀ base : Heap, (K w.params).In base → base.Ns mainGlobals mg → FnOk l.prog w (K w.params) mg base (CX w) k fa fd [x] (sp w))
    (hsp : ∀ (w : World) (H : Hp) (a : Addr) (ns : List Int), ns.length ≤ n → Only H → SqL (K w.params) H a (ns.map V.int) → sp w [.ref a] H (fun v _ => v = .bl true) fun _ _ _ => False)
    (hCX : ∀ (w : World) (H : Hp) (s : Shared) (e : Value) (s' : Shared), CX w [] H s (fun _ _ _ => False) e s' → False) :
    PySem.W.WalkO q loose XP YP l.row.toRowW d [] (fun f vs => PySem.call f vs) := by
  refine Att.attach_call hn hdf fun w s₀ s₁ mg mb fa o pm cd doc a vs ns G Y ho hd hcd hmg hobj hints hlen hg => ?_
  have KX := hY w _ Y
  obtain ⟨fd, hb, hF⟩ := F w mg fa _ KX G.T.g hmg
  exact law_call KX G.T.g G.T.b G.T.builtins G.T.nolimit hg hobj hints (Nat.le_trans hlen hn2) hr hF hb (fun H hO hS => hsp w H a ns hlen hO hS) fun H e s' => hCX w H s₁ e s'
theorem walk_ofK {l : PySem.W.OpenLaw} {n k : Nat} {q : Program} {loose : List Str} {XP : (Str → Option Value) → Heap → Prop} {YP : World → Heap → Prop} {d : DefRec} {K : Params → PySem.W.Frag} {CX : CXT} {sp : PySem.W.Frag → Sp} {x : Str}
    (hn : l.most = some n) (hn2 : n ≤ sizeLine) (hdf : d.params.defaults = []) (hr : Room k callerA)
    (hY : ∀ (w : World) (h : Heap), YP w h → (K w.params).In h)
    (F : ∀ (w : World) (mg : Str → Option Value) (fa : Addr) (h : Heap), (K w.params).In h → h.Ns mainGlobals mg → mg d.name = some (.ref fa) →
      ∃ fd : FuncData, (∀ (s : Shared) (u : Value), BindsTo s fd ⟨[u], []⟩ [(x, u)]) ∧
        ∀ base : Heap, (K w.params).In base → base.Ns mainGlobals mg → FnOk l.prog w (K w.params) mg base CX k fa fd [x] (sp (K w.params)))
    (hsp : ∀ (K : PySem.W.Frag) (H : Hp) (a : Addr) (ns : List Int), ns.length ≤ n → Only H → SqL K H a (ns.map V.int) → sp K [.ref a] H (fun v _ => v = .bl true) fun _ _ _ => False)
    (hCX : ∀ (H : Hp) (s : Shared) (e : Value) (s' : Shared), CX [] H s (fun _ _ _ => False) e s' → False) :
    PySem.W.WalkO q loose XP YP l.row.toRowW d [] (fun f vs => PySem.call f vs) :=
  walk_of (K := K) (CX := fun _ => CX) (sp := fun w => sp (K w.params)) hn hn2 hdf hr hY F (fun w H a ns h1 h2 h3 => hsp (K w.params) H a ns h1 h2 h3) fun _ H s e s' => hCX H s e s'
end L2

/- THE LAST THEOREM (shape; LID, My.* are yours):
   My.Adr: a structure of the addresses that your layer names (classes, functions); My.Txt K t: a structure (Prop) of the equations over K;
   My.txt_mk : {K} {implicit addresses ..} (e1 : nsIn K mainGlobals "law" = some (some (.ref f))) (e2 : K.lookup f = some ⟨oc, od, .func (fnOf "law" "law" params body scope dV kV doc pm an cdv ct), sl⟩) (e3 : codeIn K cdv "law" = true) .. : ∃ t, My.Txt K t

set_option maxRecDepth 100000 in
set_option maxHeartbeats 0 in
theorem PySem.Challenge.cw_LID_holds : PySem.Challenge.rw_LID.Holds := by
  w_on; o_law; k_head; (case hw => w_witness2)
  k_fill
  refine L2.walk_of (l := PySem.Challenge.rw_LID) (n := 63) (k := 40) (x := "script") (CX := fun w => ..) (sp := fun _ => My.sp_law) rfl (by decide) rfl ⟨rfl, by decide, by decide⟩ (fun w h Y => PySem.W.kIn_of Y) ?F ?S ?C
  case F =>
    intro w mg fa h KX G hmg
    have T : ∃ t, My.Txt (L2.KOf KX) t := by
      dsimp only [L2.KOf]                          -- K must stand as «<heap const> w.params» for k_is
      refine' My.txt_mk ?e1 ?e2 ?e3 ..
      (case e1 => PySem.W.k_is)                    -- in the order: a name -> its address -> its object -> its parts
      (case e2 => PySem.W.k_is)
      ..
    obtain ⟨t, T⟩ := T
    have e0 := hmg.symm.trans (PySem.W.mg_of KX G T.law)
    cases e0                                       -- fa is the law's own address
    exact ⟨_, fun s u => .of_eq rfl, fun base kb nb => My.law_fn T kb nb⟩     -- if «.of_eq rfl» comes too early: refine' ⟨_, ?b, fun base kb nb => My.law_fn T kb nb⟩; exact fun s u => .of_eq rfl
  case S => exact fun w H a ns hl hO hS => ..
  case C => exact ..
(the tactic k_is has no namespace: write k_is) -/

namespace L2
open PySem PySem.Spec PyProof.Rows

def inClass (s : Stmt) (j : Nat) : Stmt := match s with
  | .ClassDef _ _ _ body _ _ _ _ _ _ _ => body.getD j (.Pass ⟨0, 0, 0, 0⟩)
  | _ => .Pass ⟨0, 0, 0, 0⟩
def defArgs (s : Stmt) : Arguments := match s with
  | .FunctionDef _ a _ _ _ _ _ _ _ _ => a
  | _ => { posonlyargs := [], args := [], vararg := none, kwonlyargs := [], kw_defaults := [], kwarg := none, defaults := [] }
def defBody (s : Stmt) : List Stmt := match s with
  | .FunctionDef _ _ b _ _ _ _ _ _ _ => b
  | _ => []
def defScope (s : Stmt) : Scope := match s with
  | .FunctionDef _ _ _ _ _ _ sc _ _ _ => sc
  | _ => { kind := .function, names := [], isGenerator := false, isCoroutine := false }

abbrev CX0 : CXT := fun _ _ _ _ _ _ => False
abbrev E0 : XK := fun _ _ _ => False
theorem pass0 {X : Cx} : Passes CX0 X E0 := fun _ _ _ _ _ _ _ h => h.elim

structure Fun (K : PySem.W.Frag) (x qual : Str) (st : Stmt) (f : Addr) (fd : FuncData) : Prop where
  ex : ∃ (oc : Value) (od : Option Addr) (kV doc pm : Value) (an : Option Addr) (cdv ct : Value) (osl : Array (Option Value)),
    fd = PySem.W.fnOf x qual (defArgs st) (defBody st) (defScope st) .none kV doc pm an cdv ct ∧ K.lookup f = some ⟨oc, od, .func fd, osl⟩ ∧ PySem.W.codeIn K cdv qual = true
  kp : PySem.W.keepIn K (.ref f) = true
section
variable {P : Program} {w : World} {K : PySem.W.Frag} {mg : Str → Option Value} {base : Heap}
end
section
variable {X : Cx}
theorem pv (i : Nat) {x : Str} {pos : Pos} (hN : X.N[i]? = some x := by rfl) (hv : Vis X.env.scope x := by first | exact Or.inl rfl | exact Or.inr (Or.inl rfl) | exact Or.inr (Or.inr rfl)) (hd : (x == ("__debug__" : Str)) = false := by decide)
    (hcd : (x == ("__classdict__" : Str)) = false := by decide) : PE X (.Name x pos) (tVar i) := pe_var hN hv hd hcd
end

theorem iteF {A B : Prop} (h : B) : if false = true then A else B := by
  rw [if_neg Bool.false_ne_true]
  exact h
theorem iteT {A B : Prop} (h : A) : if true = true then A else B := by
  rw [if_pos rfl]
  exact h
def Same (H H' : Hp) : Prop := ∀ b o, H b = some o → H' b = some o
theorem Same.refl (H : Hp) : Same H H := fun _ _ h => h
theorem Same.trans {H H1 H2 : Hp} (a : Same H H1) (b : Same H1 H2) : Same H H2 := fun c o h => b c o (a c o h)
theorem Same.seq {K : PySem.W.Frag} {H H' : Hp} {a : Addr} {xs : List V} (e : Same H H') (h : SqL K H a xs) : SqL K H' a xs := by
  rcases h with (h | ⟨o, h⟩) | h
  · exact .inl (.inl (e _ _ h))
  · exact .inl (.inr ⟨o, e _ _ h⟩)
  · exact .inr h

section
variable {κ : Type} [DecidableEq κ]
end
end L2

namespace L2
open PySem PySem.Spec PyProof.Rows
section
variable {X : Cx}
def CMulB (i j : Int) : Prop := i.natAbs < 2 ^ 2000 ∧ j.natAbs < 2 ^ 2000
def CDivB (_ j : Int) : Prop := 0 < j ∧ j.natAbs < 2 ^ 2000
theorem op_fdivB : OpR X (binaryOp .FloorDiv) (rI CDivB fun i j => .int (i / j)) := opI fun i j _ _ _ _ _ hc q => by
  have e : i.fdiv j = i / j := Int.fdiv_eq_ediv_of_nonneg _ (Int.le_of_lt hc.1)
  have hl : j.natAbs.log2 < 9000 := by
    have h0 : j.natAbs ≠ 0 := by have := hc.1; omega
    have h2 : j.natAbs.log2 < 2000 := (Nat.log2_lt h0).mpr hc.2
    omega
  refine floordiv_int (by have := hc.1; omega) ?_ (.inl (PyProof.noPylong_of_log2 hl))
  rw [e]; exact q
inductive ClsV : V → Value → Prop where
  | ty (n : String) : ClsV (.ty n) (.type n)
  | ref (C : Addr) : ClsV (.ref C) (.ref C)
def rIsi (K : PySem.W.Frag) : List V → Hp → VK → Prop := fun xs H Q => ∃ x c cv t b, xs = [x, c] ∧ ClsV c cv ∧ TyOf K H x t ∧ PySem.W.kitOne K t cv = some b ∧ Q (.bl b) H
theorem call_isi : CallR X (.builtin "isinstance") (rIsi X.K) := by
  intro pins s σ H xs us Q I r h
  obtain ⟨x, c, cv, t, b, rfl, hc, ty, e, q⟩ := h
  obtain ⟨u, w', rfl, r1, r2⟩ := vals2 r
  have ew : w' = cv := by cases hc <;> exact r2
  subst ew
  exact isinst_ok I r1 ty e fun tk => ⟨.bl b, H, I.tok tk, rfl, q⟩
structure BaseM (K : PySem.W.Frag) (C : Addr) (m : Str) (f : Addr) : Prop where
  ga : PySem.W.specialIn K (.ref C) "__getattribute__" = some (some (.builtin "type.__getattribute__"))
  rd : PySem.W.readsIn K C (.type "type") = true
  fd : PySem.W.findCls K (.ref C) (.type "type") m = some (.val (.ref f))
  kp : PySem.W.keepIn K (.ref f) = true
theorem pe_base {CX : CXT} {k : Nat} {f C : Addr} {fd : FuncData} {ps : List Str} {sp : Sp} {dvs : List V} {ds : List Value} {E : XK} {x m : Str} {p pos apos : Pos} {e : Expr} {es : List Expr} {t : TA} {pl : Sem Bool}
    (hg : Gl X x) (hm : X.mg x = some (.ref C)) (B : BaseM X.K C m f) (F : FnOk X.prog X.w X.K X.mg X.base CX k f fd ps sp) (hr : Room k X.A) (hb : Binds X.K fd ps ds) (hd : Vals dvs ds) (hx : Passes CX X E) (ha : PA X (e :: es) t)
    (hdb : (x == ("__debug__" : Str)) = false := by decide)
    (hst : starEach (e :: es) X.env = (false, eval e X.env) :: starEach es X.env := by rfl) (hpl : (backTo pos (starEach es X.env)).any (·.1) = false := by rfl)
    (ht : eval (.Call (.Attribute (.Name x p) m apos) (e :: es) [] pos) X.env = (do
      let ov ← eval (.Name x p) X.env
      standAt apos.atName
      let (f, first) ← holding [ov] (getMethod ov m pl)
      callWith pos f first (backTo pos (starEach (e :: es) X.env)) (backToKw pos (keywordEach [] X.env))) := by rfl) :
    PE X (.Call (.Attribute (.Name x p) m apos) (e :: es) [] pos) (tCall sp dvs E t) := by
  intro pins s σ H Q I h
  refine PySem.W.methodCall_KW (pl := pl) (ld_glob I hg hm ?_ hdb) ht
  refine PySem.W.method_cls I.kIn B.ga ?_
  refine PySem.W.cls_value I.kIn B.rd B.fd rfl ?_
  have I' : Inv X pins σ H { s with toks := s.toks + 1 } := I.tok _
  refine PySem.W.callWith_K (first := []) (h₀ := X.base) I.ok.mod.kin B.kp (thn (ha pos pins _ σ H _ I' h) fun us s2 ⟨vs, H2, I2, r, q2⟩ => ⟨I2.kIn, ?_⟩) hst hpl
  exact run_fn F hr hb hd hx I2 r q2
end
end L2

namespace L2
open PySem PySem.Spec PyProof.Rows
mutual
inductive HasD (K : PySem.W.Frag) (H : Hp) : V → PyData → Prop where
  | non : HasD K H .non .none
  | bl (b : Bool) : HasD K H (.bl b) (.bool b)
  | int (i : Int) : HasD K H (.int i) (.int i)
  | str (x : Str) : HasD K H (.str x) (.str x)
  | tup {a : Addr} {xs : List V} {ds : List PyData} (h : SqT K H a xs) (r : HasDs K H xs ds) : HasD K H (.ref a) (.tuple ds)
  | lst {a : Addr} {xs : List V} {ds : List PyData} (h : SqL K H a xs) (r : HasDs K H xs ds) : HasD K H (.ref a) (.list ds)
inductive HasDs (K : PySem.W.Frag) (H : Hp) : List V → List PyData → Prop where
  | nil : HasDs K H [] []
  | cons {x : V} {d : PyData} {xs : List V} {ds : List PyData} (h : HasD K H x d) (r : HasDs K H xs ds) : HasDs K H (x :: xs) (d :: ds)
end
theorem SqT.keeps {K : PySem.W.Frag} {H H' : Hp} {a : Addr} {xs : List V} (e : Same H H') (h : SqT K H a xs) : SqT K H' a xs := by
  rcases h with (h | ⟨o, h⟩) | h
  · exact .inl (.inl (e _ _ h))
  · exact .inl (.inr ⟨o, e _ _ h⟩)
  · exact .inr h
mutual
theorem HasD.keeps {K : PySem.W.Frag} {H H' : Hp} (e : Same H H') : ∀ {v : V} {d : PyData}, HasD K H v d → HasD K H' v d
  | _, _, .non => .non
  | _, _, .bl b => .bl b
  | _, _, .int i => .int i
  | _, _, .str x => .str x
  | _, _, .tup h r => .tup (SqT.keeps e h) (HasDs.keeps e r)
  | _, _, .lst h r => .lst (Same.seq e h) (HasDs.keeps e r)
theorem HasDs.keeps {K : PySem.W.Frag} {H H' : Hp} (e : Same H H') : ∀ {vs : List V} {ds : List PyData}, HasDs K H vs ds → HasDs K H' vs ds
  | _, _, .nil => .nil
  | _, _, .cons h r => .cons (HasD.keeps e h) (HasDs.keeps e r)
end
section
variable {X : Cx} {pins : List (Addr × Obj)} {σ : St} {H : Hp} {s : Shared}
mutual
theorem HasD.reads (I : Inv X pins σ H s) : ∀ {v : V} {d : PyData} {u : Value}, HasD X.K H v d → RelV v u → ∃ as, Reads s.heap u d as
  | _, _, _, .non, r => by cases r; exact ⟨_, .none⟩
  | _, _, _, .bl b, r => by cases r; exact ⟨_, .bool b⟩
  | _, _, _, .int i, r => by obtain ⟨t, rfl⟩ := r; exact ⟨_, .int i t⟩
  | _, _, _, .str x, r => by obtain ⟨t, rfl⟩ := r; exact ⟨_, .str x t⟩
  | _, _, _, .tup h q, r => by
    cases r
    obtain ⟨its, rv, ⟨o, h1, h2, n, h3⟩, _⟩ := I.tuple h
    obtain ⟨as, ra⟩ := HasDs.reads I q rv
    exact ⟨_, .tuple h1 h2 h3 (by simpa using ra)⟩
  | _, _, _, .lst h q, r => by
    cases r
    obtain ⟨its, rv, ⟨o, n, h1, h2, _, h3⟩, _⟩ := I.list h
    obtain ⟨as, ra⟩ := HasDs.reads I q rv
    exact ⟨_, .list h1 h2 h3 (by simpa using ra)⟩
theorem HasDs.reads (I : Inv X pins σ H s) : ∀ {vs : List V} {ds : List PyData} {us : List Value}, HasDs X.K H vs ds → Vals vs us → ∃ as, ReadsAll s.heap us ds as
  | _, _, _, .nil, r => by cases r; exact ⟨_, .nil⟩
  | _, _, _, .cons h q, r => by
    cases r with
    | cons r1 r2 =>
      obtain ⟨as, ra⟩ := HasD.reads I h r1
      obtain ⟨bs, rb⟩ := HasDs.reads I q r2
      exact ⟨_, .cons ra rb⟩
end
end
section
variable {X : Cx}
def rEqD (K : PySem.W.Frag) (f : Bool → Bool) : R2 := fun x y H Q => ∃ d e, HasD K H x d ∧ HasD K H y e ∧ d.canLay0 = true ∧ e.canLay0 = true ∧ d.depth ≤ 8 ∧ Q (.bl (f (PyData.eqv d e))) H
theorem op_eqD (hu : X.A.units + 8 < cLine) : OpR X (compareOp .Eq) (rEqD X.K id) := by
  intro pins s σ H x y v u Q I rx ry h
  obtain ⟨d, e, hd, he, c1, c2, hn, q⟩ := h
  obtain ⟨as, ra⟩ := hd.reads I rx
  obtain ⟨bs, rb⟩ := he.reads I ry
  exact SeqAt.compareEq_reads ra rb c1 c2 (by have := Nat.min_le_left d.depth e.depth; omega) ⟨.bl _, H, I, rfl, q⟩
end
end L2

namespace L2
open PySem PySem.Spec PyProof.Rows
structure Cal (P : Program) (w : World) (K : PySem.W.Frag) (mg : Str → Option Value) (base : Heap) (k : Nat) (f : Addr) (ps : List Str) (dvs : List V) (sp : Sp) : Prop where
  ex : ∃ (fd : FuncData) (ds : List Value), FnOk P w K mg base CX0 k f fd ps sp ∧ Binds K fd ps ds ∧ Vals dvs ds
section
variable {X : Cx} {k : Nat} {f C : Addr} {ps : List Str} {sp : Sp} {dvs : List V} {x m : Str} {p pos apos : Pos} {e o : Expr} {es : List Expr} {ta : TE} {t : TA}
theorem pc_call (c : Cal X.prog X.w X.K X.mg X.base k f ps dvs sp) (hr : Room k X.A) (hg : Gl X x) (hm : X.mg x = some (.ref f)) (hk : PySem.W.keepIn X.K (.ref f) = true)
    (ha : PA X (e :: es) t) (hdb : (x == ("__debug__" : Str)) = false := by decide) (he : starEach (e :: es) X.env = (false, eval e X.env) :: starEach es X.env := by rfl) (hpl : (backTo pos (starEach es X.env)).any (·.1) = false := by rfl) :
    PE X (.Call (.Name x p) (e :: es) [] pos) (tCall sp dvs E0 t) := by
  obtain ⟨fd, ds, F, hb, hd⟩ := c.ex
  exact pe_call F hr hg hm hk hb hd pass0 ha hdb he hpl
end
structure FunD (K : PySem.W.Frag) (x qual : Str) (st : Stmt) (f : Addr) (dV : Value) (fd : FuncData) : Prop where
  ex : ∃ (oc : Value) (od : Option Addr) (kV doc pm : Value) (an : Option Addr) (cdv ct : Value) (osl : Array (Option Value)),
    fd = PySem.W.fnOf x qual (defArgs st) (defBody st) (defScope st) dV kV doc pm an cdv ct ∧ K.lookup f = some ⟨oc, od, .func fd, osl⟩ ∧ PySem.W.codeIn K cdv qual = true
theorem funD_mk {K : PySem.W.Frag} {x qual : Str} {st : Stmt} {f : Addr} {oc : Value} {od an : Option Addr} {osl : Array (Option Value)} {dV kV doc pm cdv ct : Value} (l : K.lookup f = some ⟨oc, od, .func (PySem.W.fnOf x qual (defArgs st) (defBody st) (defScope st) dV kV doc pm an cdv ct), osl⟩)
    (c : PySem.W.codeIn K cdv qual = true) : FunD K x qual st f dV (PySem.W.fnOf x qual (defArgs st) (defBody st) (defScope st) dV kV doc pm an cdv ct) := ⟨⟨oc, od, kV, doc, pm, an, cdv, ct, osl, rfl, l, c⟩⟩
section
variable {P : Program} {w : World} {K : PySem.W.Frag} {mg : Str → Option Value} {base : Heap}
theorem FunD.ok {x qual : Str} {st : Stmt} {f : Addr} {dV : Value} {fd : FuncData} {N ps : List Str} {k : Nat} {sp : Sp} (F : FunD K x qual st f dV fd) (S : FnScope N ps (defScope st)) (len : ∀ vs H Q E, sp vs H Q E → vs.length = ps.length)
    (hbody : ∀ (cdv : Value) (A : Around) (outer : List Env) (s : Shared) (H : Hp) (vs : List V) (Q : VK) (E : XK), Room k (A.deeper (envOfC qual (defScope st) s.heap.objs.size f cdv)) → sp vs H Q E →
      ∃ t, PSs (cxOf CX0 P w K mg base N qual (defScope st) f cdv A outer s H E).nox (defBody st) t ∧ t { nx := fun _ H' => Q .non H', rt := Q } (start N vs) H) : FnOk P w K mg base CX0 (k + 1) f fd ps sp := by
  obtain ⟨oc, od, kV, doc, pm, an, cdv, ct, osl, rfl, lk, hcd⟩ := F.ex
  refine fn_of lk hcd S len fun A outer s H vs Q E hr hsp => ?_
  obtain ⟨t, h, q⟩ := hbody cdv A outer s H vs Q E hr hsp
  exact ⟨t, h.nox, q⟩
theorem FunD.binds {x qual : Str} {st : Stmt} {f : Addr} {dV : Value} {fd : FuncData} {ps : List Str} {ds : List Value} (F : FunD K x qual st f dV fd)
    (h : ∀ (kV doc pm : Value) (an : Option Addr) (cdv ct : Value), Binds K (PySem.W.fnOf x qual (defArgs st) (defBody st) (defScope st) dV kV doc pm an cdv ct) ps ds) : Binds K fd ps ds := by
  obtain ⟨oc, od, kV, doc, pm, an, cdv, ct, osl, rfl, lk, hcd⟩ := F.ex
  exact h kV doc pm an cdv ct
end
end L2

namespace L2
open PySem PySem.Spec PyProof.Rows
structure DefT (K : PySem.W.Frag) (T : Addr) (items : Array Value) : Prop where
  ex : ∃ (o : Obj) (n : Nat), K.lookup T = some o ∧ o.data = .seq items n
structure TyCls (K : PySem.W.Frag) (C : Addr) : Prop where
  ha : PySem.W.findIn K (.ref C) "__class__" = some (some (.builtin "object.__class__"))
  hn : PySem.W.specialIn K (.builtin "object.__class__") "__get__" = some (some (.builtin "getset_descriptor.__get__"))
  ht : PySem.W.takesIn K (.builtin "object.__class__") = some true
  hm : PySem.W.mroIn K C (.type "object") = some true
section
variable {σ : St} {H : Hp} {Q : VK} {D : Ends} {K : PySem.W.Frag}
theorem r_next (h : D.nx σ H) : tNext D σ H := h
theorem r_ret {te : TE} (h : te σ H D.rt) : tRet te D σ H := h
theorem r_drop {te : TE} (h : te σ H fun _ H1 => D.nx σ H1) : tDrop te D σ H := h
theorem r_ifS {c : TT} {t u : TS} (h : c σ H fun b H1 => if b = true then t D σ H1 else u D σ H1) : tIfS c t u D σ H := h
theorem r_asg {te : TE} {i : Nat} (h : te σ H fun x H1 => D.nx (σ.set i (some x)) H1) : tAsg te (gName i) D σ H := h
theorem r_var {i : Nat} {v : V} (e : σ[i]? = some (some v)) (h : Q v H) : tVar i σ H Q := ⟨v, e, h⟩
theorem r_c {v : V} (h : Q v H) : tC v σ H Q := h
theorem r_op {r : R2} {ta tb : TE} (h : ta σ H fun x H1 => tb σ H1 fun y H2 => r x y H2 Q) : tOp r ta tb σ H Q := h
theorem r_i0 {g : Int → Int → V} {i j : Int} (h : Q (g i j) H) : rI0 g (.int i) (.int j) H Q := ⟨i, j, rfl, rfl, h⟩
theorem r_i {C : Int → Int → Prop} {g : Int → Int → V} {i j : Int} (c : C i j) (h : Q (g i j) H) : rI C g (.int i) (.int j) H Q := ⟨i, j, rfl, rfl, c, h⟩
theorem r_test {t : TE} {Q : Bool → Hp → Prop} (h : t σ H fun x H' => ∃ k, x = .bl k ∧ Q k H') : tTest t σ H Q := h
theorem r_and {t u : TT} {Q : Bool → Hp → Prop} (h : t σ H fun c H1 => if c = true then u σ H1 Q else Q false H1) : tAnd t u σ H Q := h
theorem r_or {t u : TT} {Q : Bool → Hp → Prop} (h : t σ H fun c H1 => if c = true then Q true H1 else u σ H1 Q) : tOr t u σ H Q := h
theorem r_not {t : TT} {Q : Bool → Hp → Prop} (h : t σ H fun c H1 => Q (!c) H1) : tNot t σ H Q := h
theorem r_andV {ta tb : TE} (h : ta σ H fun x H1 => ∃ c, x = .bl c ∧ if c = true then tb σ H1 Q else Q (.bl false) H1) : tAndV ta tb σ H Q := h
theorem r_notV {ta : TE} (h : ta σ H fun x H1 => ∃ c, x = .bl c ∧ Q (.bl (!c)) H1) : tNotV ta σ H Q := h
theorem r_bl {b : Bool} {R : Bool → Prop} (h : R b) : ∃ k, V.bl b = .bl k ∧ R k := ⟨b, rfl, h⟩
theorem r_nil {Q : List V → Hp → Prop} (h : Q [] H) : tNil σ H Q := h
theorem r_cons {ta : TE} {tr : TA} {Q : List V → Hp → Prop} (h : ta σ H fun x H1 => tr σ H1 fun xs H2 => Q (x :: xs) H2) : tCons ta tr σ H Q := h
theorem r_cb {r : List V → Hp → VK → Prop} {t : TA} (h : t σ H fun vs H1 => r vs H1 Q) : tCB r t σ H Q := h
theorem if_true' {A B : Prop} (h : A) : if true = true then A else B := by rw [if_pos rfl]; exact h
theorem if_false' {A B : Prop} (h : B) : if false = true then A else B := by rw [if_neg Bool.false_ne_true]; exact h
end
end L2

namespace L2
open PySem PySem.Spec PyProof.Rows
section
variable {X : Cx} {e : Expr} {es : List Expr}
theorem PE.weak {t u : TE} (h1 : PE X e t) (h : ∀ σ H Q, u σ H Q → t σ H Q) : PE X e u := fun pins s σ H Q I q => h1 pins s σ H Q I (h σ H Q q)
def mE (t : TE) : TE := fun σ H Q => ∃ Q' : VK, t σ H Q' ∧ ∀ v H', Q' v H' → Q v H'
def mA (t : TA) : TA := fun σ H Q => ∃ Q' : List V → Hp → Prop, t σ H Q' ∧ ∀ v H', Q' v H' → Q v H'
theorem PA.m {t : TA} (h : PA X es t) : PA X es (mA t) := fun pos pins s σ H Q I ⟨Q', q, m⟩ => thn (h pos pins s σ H Q' I q) fun _ _ ⟨v, H', I', r, z⟩ => ⟨v, H', I', r, m v H' z⟩
end
def keyD : Key → PyData
  | .inl i => .int i
  | .inr x => .str x
mutual
inductive Dv (H : Hp) : V → PyData → Prop where
  | non : Dv H .non .none
  | bl (b : Bool) : Dv H (.bl b) (.bool b)
  | int (i : Int) : Dv H (.int i) (.int i)
  | str (x : Str) : Dv H (.str x) (.str x)
  | tup {a : Addr} {xs : List V} {ds : List PyData} (h : H a = some (.tup xs)) (r : Dvs H xs ds) : Dv H (.ref a) (.tuple ds)
  | lst {a : Addr} {xs : List V} {ds : List PyData} (h : Rd H a (.lst xs)) (r : Dvs H xs ds) : Dv H (.ref a) (.list ds)
  | dct {a : Addr} {kvs : List (Key × V)} {ds : List (PyData × PyData)} (h : H a = some (.dK kvs)) (r : Dks H kvs ds) : Dv H (.ref a) (.dict ds)
inductive Dks (H : Hp) : List (Key × V) → List (PyData × PyData) → Prop where
  | nil : Dks H [] []
  | cons {k : Key} {x : V} {d : PyData} {xs : List (Key × V)} {ds : List (PyData × PyData)} (h : Dv H x d) (r : Dks H xs ds) : Dks H ((k, x) :: xs) ((keyD k, d) :: ds)
inductive Dvs (H : Hp) : List V → List PyData → Prop where
  | nil : Dvs H [] []
  | cons {x : V} {d : PyData} {xs : List V} {ds : List PyData} (h : Dv H x d) (r : Dvs H xs ds) : Dvs H (x :: xs) (d :: ds)
end
mutual
theorem Dv.has {K : PySem.W.Frag} {H : Hp} : ∀ {v : V} {d : PyData}, Dv H v d → d.canLay0 = true → HasD K H v d
  | _, _, .non, _ => .non
  | _, _, .bl b, _ => .bl b
  | _, _, .int i, _ => .int i
  | _, _, .str x, _ => .str x
  | _, _, .tup h r, c => .tup (.of h) (Dvs.has r (by simpa [PyData.canLay0] using c))
  | _, _, .lst h r, c => .lst (.inl h) (Dvs.has r (by simpa [PyData.canLay0] using c))
  | _, _, .dct h r, c => by simp [PyData.canLay0] at c
theorem Dvs.has {K : PySem.W.Frag} {H : Hp} : ∀ {v : List V} {d : List PyData}, Dvs H v d → PyData.canLayAll0 d = true → HasDs K H v d
  | _, _, .nil, _ => .nil
  | _, _, .cons h r, c => by
    have c' := c
    simp only [PyData.canLayAll0, Bool.and_eq_true] at c'
    exact .cons (Dv.has h c'.1) (Dvs.has r c'.2)
end
theorem Same.rd {H H' : Hp} {a : Addr} {u : HO} (e : Same H H') (h : Rd H a u) : Rd H' a u := by
  rcases h with h | ⟨o, h⟩
  · exact .inl (e _ _ h)
  · exact .inr ⟨o, e _ _ h⟩
mutual
theorem Dv.keeps {H H' : Hp} (e : Same H H') : ∀ {v : V} {d : PyData}, Dv H v d → Dv H' v d
  | _, _, .non => .non
  | _, _, .bl b => .bl b
  | _, _, .int i => .int i
  | _, _, .str x => .str x
  | _, _, .tup h r => .tup (e _ _ h) (Dvs.keeps e r)
  | _, _, .lst h r => .lst (e.rd h) (Dvs.keeps e r)
  | _, _, .dct h r => .dct (e _ _ h) (Dks.keeps e r)
theorem Dks.keeps {H H' : Hp} (e : Same H H') : ∀ {v : List (Key × V)} {d : List (PyData × PyData)}, Dks H v d → Dks H' v d
  | _, _, .nil => .nil
  | _, _, .cons h r => .cons (Dv.keeps e h) (Dks.keeps e r)
theorem Dvs.keeps {H H' : Hp} (e : Same H H') : ∀ {v : List V} {d : List PyData}, Dvs H v d → Dvs H' v d
  | _, _, .nil => .nil
  | _, _, .cons h r => .cons (Dv.keeps e h) (Dvs.keeps e r)
end
theorem Dvs.length {H : Hp} : ∀ {xs : List V} {ds : List PyData}, Dvs H xs ds → xs.length = ds.length
  | _, _, .nil => rfl
  | _, _, .cons _ r => by simp [Dvs.length r]
theorem Dvs.get {H : Hp} : ∀ {xs : List V} {ds : List PyData} {i : Nat} {d : PyData}, Dvs H xs ds → ds[i]? = some d → ∃ x, xs[i]? = some x ∧ Dv H x d
  | _, _, _, _, .nil, e => by simp at e
  | _, _, 0, _, .cons h _, e => by simp at e; subst e; exact ⟨_, rfl, h⟩
  | _, _, i + 1, x, .cons _ r, e => by
    obtain ⟨d, h1, h2⟩ := Dvs.get (i := i) (d := x) r (by simpa using e)
    exact ⟨d, by simpa using h1, h2⟩
theorem Dvs.append {H : Hp} : ∀ {xs ys : List V} {ds es : List PyData}, Dvs H xs ds → Dvs H ys es → Dvs H (xs ++ ys) (ds ++ es)
  | _, _, _, _, .nil, s => s
  | _, _, _, _, .cons r t, s => .cons r (Dvs.append t s)
theorem Dv.int_inv {H : Hp} {v : V} {i : Int} (h : Dv H v (.int i)) : v = .int i := by cases h; rfl
theorem Dv.non_inv {H : Hp} {v : V} (h : Dv H v .none) : v = .non := by cases h; rfl
theorem Dv.bl_inv {H : Hp} {v : V} {i : Bool} (h : Dv H v (.bool i)) : v = .bl i := by cases h; rfl
def GotD (H : Hp) (d : PyData) (Q : VK) : Prop := match d with
  | .none => Q .non H
  | .bool b => Q (.bl b) H
  | .int i => Q (.int i) H
  | .str x => Q (.str x) H
  | d => ∀ v, Dv H v d → Q v H
theorem GotD.use {H : Hp} {d : PyData} {Q : VK} (g : GotD H d Q) {v : V} (h : Dv H v d) : Q v H := by
  cases h with
  | non => exact g
  | bl b => exact g
  | int i => exact g
  | str x => exact g
  | tup h r => exact g _ (.tup h r)
  | lst h r => exact g _ (.lst h r)
  | dct h r => exact g _ (.dct h r)
theorem atI_map {H : Hp} {xs : List V} {ds : List PyData} {i : Int} {d : PyData} (r : Dvs H xs ds) (h : atI ds i = some d) : ∃ x, atI xs i = some x ∧ Dv H x d := by
  unfold atI at h ⊢
  rw [r.length]
  cases e : ixN ds.length i with
  | none => rw [e] at h; simp at h
  | some j =>
    rw [e] at h
    have h' : ds[j]? = some d := by simpa using h
    obtain ⟨x, h1, h2⟩ := r.get h'
    exact ⟨x, by simpa using h1, h2⟩
def isSeq (H : Hp) (v : V) (ds : List PyData) : Prop := Dv H v (.tuple ds) ∨ Dv H v (.list ds)
def rIxD : R2 := fun x y H Q => ∃ ds i d, y = .int i ∧ isSeq H x ds ∧ atI ds i = some d ∧ GotD H d Q
theorem rIxD_ok {K : PySem.W.Frag} {x y : V} {H : Hp} {Q : VK} (h : rIxD x y H Q) : rIx K x y H Q := by
  obtain ⟨ds, i, d, rfl, hs, hi, g⟩ := h
  rcases hs with hs | hs
  · cases hs with
    | tup h r =>
      obtain ⟨v, h1, h2⟩ := atI_map r hi
      exact .inr (.inl ⟨_, _, i, v, rfl, rfl, .of h, h1, g.use h2⟩)
  · cases hs with
    | lst h r =>
      obtain ⟨v, h1, h2⟩ := atI_map r hi
      exact .inl ⟨_, _, i, v, rfl, rfl, .inl h, h1, g.use h2⟩
section
variable {X : Cx}
def rIxA : R2 := fun x y H Q => rIxD x y H Q ∨ rIxS x y H Q
theorem ix_A : IxR X rIxA := fun value slice pins s σ H x y v u Q I r1 r2 h => ix_seq value slice pins s σ H x y v u Q I r1 r2 (h.elim rIxD_ok fun z => .inr (.inr z))
def rLenA : List V → Hp → VK → Prop := fun xs H Q => (∃ v ds, xs = [v] ∧ isSeq H v ds ∧ Q (.int (ds.length : Nat)) H) ∨ ∃ z, xs = [.str z] ∧ z.length ≤ sizeLine ∧ Q (.int (z.length : Nat)) H
theorem call_lenA : CallR X (.builtin "len") rLenA := fun pins s σ H xs us Q I r h => by
  rcases h with ⟨v, ds, rfl, hs, q⟩ | h
  · rcases hs with hs | hs
    · cases hs with
      | tup h t => exact call_len_seq pins s σ H _ us Q I r ⟨_, _, rfl, .inr (.of h), by rw [t.length]; exact q⟩
    · cases hs with
      | lst h t => exact call_len_seq pins s σ H _ us Q I r ⟨_, _, rfl, .inl (.inl h), by rw [t.length]; exact q⟩
  · exact call_len_str pins s σ H _ us Q I r h
def tyN : PyData → String
  | .none => "NoneType" | .bool _ => "bool" | .int _ => "int" | .str _ => "str" | .list _ => "list" | .tuple _ => "tuple" | .dict _ => "dict"
def kitBi (t n : String) : Option Bool := if ((Value.type t) == (Value.type n)) = true then some true else if PySem.W.kitMeta n = true then (PySem.fastBuiltinMro t).map (·.contains (.type n)) else none
theorem kitBi_ok {K : PySem.W.Frag} {t n : String} {b : Bool} (h : kitBi t n = some b) : PySem.W.kitOne K (.type t) (.type n) = some b := h
def isiN (t n : String) : Bool := t == n || (t == "bool" && n == "int")
theorem kitBi_all : (["NoneType", "bool", "int", "str", "list", "tuple", "dict"].all fun t => ["int", "bool", "str", "list", "tuple", "dict"].all fun n => kitBi t n == some (isiN t n)) = true := by decide +kernel
theorem kitBi_of {t n : String} (ht : t ∈ ["NoneType", "bool", "int", "str", "list", "tuple", "dict"]) (hn : n ∈ ["int", "bool", "str", "list", "tuple", "dict"]) : kitBi t n = some (isiN t n) := by
  have h := List.all_eq_true.mp (List.all_eq_true.mp kitBi_all t ht) n hn
  exact beq_iff_eq.mp h
theorem tyN_mem (d : PyData) : tyN d ∈ ["NoneType", "bool", "int", "str", "list", "tuple", "dict"] := by
  cases d <;> simp [tyN]
theorem Dv.ty {K : PySem.W.Frag} {H : Hp} {v : V} {d : PyData} (h : Dv H v d) : TyOf K H v (.type (tyN d)) := by
  cases h with
  | non => exact .non
  | bl b => exact .bl b
  | int i => exact .int i
  | str x => exact .str x
  | tup h r => exact .tup h
  | lst h r =>
    rcases h with h | ⟨o, h⟩
    · exact .lst h
    · exact .frz h
  | dct h r => exact .dK h
theorem r_isiD {K : PySem.W.Frag} {H : Hp} {v : V} {d : PyData} {n : String} {Q : VK} (h : Dv H v d) (hn : n ∈ ["int", "bool", "str", "list", "tuple", "dict"]) (q : Q (.bl (isiN (tyN d) n)) H) : rIsi K [v, .ty n] H Q :=
  ⟨v, .ty n, .type n, _, _, rfl, .ty n, h.ty, kitBi_ok (kitBi_of (tyN_mem d) hn), q⟩
def rEqA (K : PySem.W.Frag) (f : Bool → Bool) : R2 := fun x y H Q => (scal x y = true ∧ Q (.bl (f (decide (x = y)))) H) ∨ ∃ d e, Dv H x d ∧ Dv H y e ∧ d.canLay0 = true ∧ e.canLay0 = true ∧ d.depth ≤ 8 ∧ Q (.bl (f (PyData.eqv d e))) H
theorem op_eqA (hu : X.A.units + 8 < cLine) : OpR X (compareOp .Eq) (rEqA X.K id) := fun pins s σ H x y v u Q I rx ry h => by
  rcases h with h | ⟨d, e, h1, h2, h3, h4, h5, h6⟩
  · exact op_eq pins s σ H x y v u Q I rx ry h
  · exact op_eqD hu pins s σ H x y v u Q I rx ry ⟨d, e, h1.has h3, h2.has h4, h3, h4, h5, h6⟩
variable {es : List Expr} {t : TA} {pos : Pos}
def TupP (xs : List V) (H1 : Hp) (Q : VK) : Prop := xs.length ≤ sizeLine ∧ ∃ ds, Dvs H1 xs ds ∧ ∀ p H2, Same H1 H2 → H1 p = none → H2 p = some (.tup xs) → Dv H2 (.ref p) (.tuple ds) → Q (.ref p) H2
def LstP (xs : List V) (H1 : Hp) (Q : VK) : Prop := xs.length ≤ sizeLine ∧ ∃ ds, Dvs H1 xs ds ∧ ∀ p H2, Same H1 H2 → H1 p = none → H2 p = some (.lst xs) → Dvs H2 xs ds → Dv H2 (.ref p) (.list ds) → Q (.ref p) H2
def tTupD (t : TA) : TE := fun σ H Q => t σ H fun xs H1 => TupP xs H1 Q
def tLstD (t : TA) : TE := fun σ H Q => t σ H fun xs H1 => LstP xs H1 Q
theorem pe_lstD (h : PA X es t) : PE X (.List es pos) (tLstD t) := PE.weak (pe_lst h.m) fun σ H Q q => ⟨_, q, fun xs H1 ⟨hl, ds, hd, k⟩ => ⟨hl, fun p hp => by
  have sm : Same H1 (upd H1 p (.lst xs)) := fun b u e => by rw [upd_ne (ne_of_none e hp)]; exact e
  exact k p _ sm hp upd_same (hd.keeps sm) (.lst (.of upd_same) (hd.keeps sm))⟩⟩
variable {st : Stmt} {rest : List Stmt}
def tCut (t u : TS) : TS := fun D σ H => ∃ R : St → Hp → Prop, t { D with nx := R } σ H ∧ ∀ σ' H', R σ' H' → u D σ' H'
theorem pss_cut {t u : TS} (h1 : PS X st t) (h2 : PSs X rest u) : PSs X (st :: rest) (tCut t u) := by
  intro pins s σ H D I ⟨R, h, k⟩
  refine wpAny_execs_cons (thn (h1 pins s σ H { D with nx := R } I h) fun f s1 q => ?_)
  cases f with
  | next =>
    obtain ⟨σ', H', I', q⟩ := q
    exact h2 pins s1 σ' H' D I' (k _ _ q)
  | ret v => exact q
  | brk => exact q
  | cont => exact q
end
section
variable {σ : St} {H : Hp} {Q : VK} {D : Ends} {K : PySem.W.Frag}
theorem r_cutS {t u : TS} (h : t { D with nx := u D } σ H) : tCut t u D σ H := ⟨u D, h, fun _ _ z => z⟩
theorem r_lstD {t : TA} (h : t σ H fun xs H1 => LstP xs H1 Q) : tLstD t σ H Q := h
theorem r_eqS {f : Bool → Bool} {x y : V} (e : scal x y = true) (h : Q (.bl (f (decide (x = y)))) H) : rEqA K f x y H Q := .inl ⟨e, h⟩
theorem r_ixT {x : V} {ds : List PyData} {i : Int} {d : PyData} (hs : isSeq H x ds) (hi : atI ds i = some d) (g : GotD H d Q) : rIxA x (.int i) H Q := .inl ⟨ds, i, d, rfl, hs, hi, g⟩
theorem r_lenD {v : V} {ds : List PyData} (hs : isSeq H v ds) (h : Q (.int (ds.length : Nat)) H) : rLenA [v] H Q := .inl ⟨v, ds, rfl, hs, h⟩
theorem got_int {i : Int} (h : Q (.int i) H) : GotD H (.int i) Q := h
theorem if_bl {b : Bool} {A B : Prop} (h1 : b = true → A) (h2 : b = false → B) : if b = true then A else B := by
  cases b
  · exact iteF (h2 rfl)
  · exact iteT (h1 rfl)
end
theorem Room.hu8 {k : Nat} {A : Around} (r : Room k A) : A.units + 8 < cLine := Nat.lt_of_le_of_lt (by omega) r.units
end L2

namespace L2
open PySem PySem.Spec PyProof.Rows
theorem Same.at {H H' : Hp} {a : Addr} {o : HO} (s : Same H H') (h : H a = some o) : H' a = some o := s a o h
theorem same_upd {H : Hp} {t : Addr} {o : HO} (h : H t = none) : Same H (upd H t o) := fun b u e => by rw [upd_ne (ne_of_none e h)]; exact e
section
variable {σ : St} {H : Hp} {Q : VK} {D : Ends} {K : PySem.W.Frag}
theorem r_rt {v : V} {R : St → Hp → Prop} {rt : VK} {bk ct : St → Hp → Prop} (h : rt v H) : (Ends.mk R rt bk ct).rt v H := h
end
end L2
namespace L2
open PySem PySem.Spec PyProof.Rows
theorem cls_of_mro {K : PySem.W.Frag} {C : Addr} {b : Value} {r : Bool} (h : PySem.W.mroIn K C b = some r) : (PySem.W.clsIn K C).isSome = true := by
  obtain ⟨cd, e, _⟩ := Option.bind_eq_some_iff.mp h
  rw [e]; rfl
theorem kit_own {K : PySem.W.Frag} {C D : Addr} {b : Bool} (h2 : PySem.W.mroIn K D (.type "object") = some true) (h3 : PySem.W.typeIn K (.ref D) = some (.type "type")) (h : PySem.W.mroIn K C (.ref D) = some b) (hb : C = D → b = true := by intro _; rfl) : PySem.W.kitOne K (.ref C) (.ref D) = some b := by
  unfold PySem.W.kitOne
  split
  · rename_i e
    have : C = D := by
      have := beq_iff_eq.mp e
      cases this; rfl
    rw [hb this]
  · show (if ((PySem.W.clsIn K D).isSome && PySem.W.typeIn K (.ref D) == some (.type "type")) = true then PySem.W.subIn K (.ref C) (.ref D) else none) = some b
    rw [cls_of_mro h2, h3]
    rw [if_pos (by decide +kernel)]
    exact h
end L2
namespace L2
open PySem PySem.Spec PyProof.Rows
def isInt : PyData → Bool | .int _ => true | .bool _ => true | _ => false
def isBool : PyData → Bool | .bool _ => true | _ => false
def isStr : PyData → Bool | .str _ => true | _ => false
def isLst : PyData → Bool | .list _ => true | _ => false
def isTup : PyData → Bool | .tuple _ => true | _ => false
def isDct : PyData → Bool | .dict _ => true | _ => false
section
variable {K : PySem.W.Frag} {H : Hp} {v : V} {d : PyData} {Q : VK}
theorem r_isi_int (h : Dv H v d) (q : Q (.bl (isInt d)) H) : rIsi K [v, .ty "int"] H Q := r_isiD h (by decide) (by cases d <;> exact q)
theorem r_isi_bool (h : Dv H v d) (q : Q (.bl (isBool d)) H) : rIsi K [v, .ty "bool"] H Q := r_isiD h (by decide) (by cases d <;> exact q)
theorem r_isi_own {p C D dx : Addr} {fs : List (Str × V)} {b : Bool} (hp : H p = some (.ins C dx fs)) (cl : Cls K C) (t : TyCls K C) (k : PySem.W.kitOne K (.ref C) (.ref D) = some b) (q : Q (.bl b) H) : rIsi K [.ref p, .ref D] H Q :=
  ⟨_, _, _, _, _, rfl, .ref D, .ins hp cl t.ha t.hn t.ht t.hm, k, q⟩
def Ins (H : Hp) (v : V) (C : Addr) (fs : List (Str × V)) : Prop := ∃ p dx, v = .ref p ∧ H p = some (.ins C dx fs)
theorem r_isiI {C D : Addr} {fs : List (Str × V)} {b : Bool} (hp : Ins H v C fs) (cl : Cls K C) (t : TyCls K C) (k : PySem.W.kitOne K (.ref C) (.ref D) = some b) (q : Q (.bl b) H) : rIsi K [v, .ref D] H Q := by
  obtain ⟨p, dx, rfl, e⟩ := hp
  exact r_isi_own e cl t k q
end
def look (f : Str) : List (Str × V) → Option V
  | [] => none
  | (g, v) :: r => if f = g then some v else look f r
end L2
namespace L2
open PySem PySem.Spec PyProof.Rows
section
variable {X : Cx}
def rIxK (K : PySem.W.Frag) : R2 := fun x y H Q => rIxA x y H Q ∨ rIxL K x y H Q
theorem ix_K : IxR X (rIxK X.K) := fun value slice pins s σ H x y v u Q I r1 r2 h => h.elim (ix_A value slice pins s σ H x y v u Q I r1 r2) (ix_list value slice pins s σ H x y v u Q I r1 r2)
def rLenK (K : PySem.W.Frag) : List V → Hp → VK → Prop := fun xs H Q => rLenA xs H Q ∨ ∃ p ys, xs = [.ref p] ∧ SqL K H p ys ∧ Q (.int ys.length) H
theorem call_lenK : CallR X (.builtin "len") (rLenK X.K) := fun pins s σ H xs us Q I r h => by
  rcases h with h | ⟨p, ys, e, hl, q⟩
  · exact call_lenA pins s σ H xs us Q I r h
  · exact call_len_seq pins s σ H xs us Q I r ⟨p, ys, e, .inl hl, q⟩
end
section
variable {σ : St} {H : Hp} {Q : VK} {D : Ends} {K : PySem.W.Frag}
theorem r_ixD {x : V} {ds : List PyData} {i : Int} {d : PyData} (hs : isSeq H x ds) (hi : atI ds i = some d) (g : GotD H d Q) : rIxK K x (.int i) H Q := .inl (r_ixT hs hi g)
theorem r_ixL {p : Addr} {xs : List V} {i : Int} {v : V} (hs : SqL K H p xs) (hi : atI xs i = some v) (g : Q v H) : rIxK K (.ref p) (.int i) H Q := .inr ⟨p, xs, i, v, rfl, rfl, hs, hi, g⟩
theorem r_lenK {v : V} {ds : List PyData} (hs : isSeq H v ds) (h : Q (.int (ds.length : Nat)) H) : rLenK K [v] H Q := .inl (r_lenD hs h)
theorem r_lenL {p : Addr} {xs : List V} (hs : SqL K H p xs) (h : Q (.int xs.length) H) : rLenK K [.ref p] H Q := .inr ⟨p, xs, rfl, hs, h⟩
theorem r_sfld {ta tv : TE} {f : Str} (h : tv σ H fun y H1 => ta σ H1 fun x H2 => ∃ a C dx fs, x = .ref a ∧ H2 a = some (.ins C dx fs) ∧ Cls K C ∧ NoAttr K C f ∧ fs.length < 1000 ∧ D.nx σ (upd H2 a (.ins C dx (putF f y fs)))) : sFld K ta tv f D σ H := h
theorem r_sfldv {p C dx : Addr} {fs fs' : List (Str × V)} {f : Str} {y : V} (hp : H p = some (.ins C dx fs)) (c : Cls K C) (n : NoAttr K C f) (hl : fs.length < 1000) (e : putF f y fs = fs') (h : D.nx σ (upd H p (.ins C dx fs'))) :
    ∃ a C dx fs, V.ref p = .ref a ∧ H a = some (.ins C dx fs) ∧ Cls K C ∧ NoAttr K C f ∧ fs.length < 1000 ∧ D.nx σ (upd H a (.ins C dx (putF f y fs))) := ⟨p, C, dx, fs, rfl, hp, c, n, hl, by rw [e]; exact h⟩
def spInit (C : Addr) (pre : List V → Prop) (fs : List V → List (Str × V)) : Sp := fun vs H Q _ => ∃ p dx args, vs = .ref p :: args ∧ pre args ∧ H p = some (.ins C dx []) ∧ Q .non (upd H p (.ins C dx (fs args)))
def rMin : List V → Hp → VK → Prop := fun xs H Q => ∃ i j, xs = [.int i, .int j] ∧ Q (.int (if j < i then j else i)) H
theorem r_is {R : Prop} (h : R) : V.non = V.non ∧ R := ⟨rfl, h⟩
end
def Bg (i : Int) : Prop := i.natAbs < 2 ^ 2000
theorem bg {i : Int} (h1 : -(10 ^ 200) < i) (h2 : i < 10 ^ 200) : i.natAbs < 2 ^ 2000 := by
  have : (10 : Nat) ^ 200 < 2 ^ 2000 := by decide +kernel
  have h3 : i.natAbs < 10 ^ 200 := by
    have e : ((10 : Nat) ^ 200 : Nat) = ((10 : Int) ^ 200).toNat := by decide +kernel
    rw [e]
    generalize (10 : Int) ^ 200 = m at h1 h2 ⊢
    omega
  exact Nat.lt_trans h3 this
theorem cdivB {i j : Int} (h1 : 0 < j) (h2 : j < 10 ^ 200) : CDivB i j := ⟨h1, bg (Int.lt_trans (by decide) h1) h2⟩
def cell (ns : List Int) (k : Nat) : Int := ns.getD k 0
def spCell (K : PySem.W.Frag) : Sp := fun vs H Q _ => ∃ l ns k, vs = [.ref l, .int k] ∧ SqL K H l (ns.map V.int) ∧ 0 ≤ k ∧ Q (.int (cell ns k.toNat)) H
theorem u_cell {K : PySem.W.Frag} {H : Hp} {Q : VK} {E : XK} {l : Addr} {ns : List Int} {k : Int} (h : SqL K H l (ns.map V.int)) (hk : 0 ≤ k) (q : Q (.int (cell ns k.toNat)) H) : spCell K [.ref l, .int k] H Q E := ⟨l, ns, k, rfl, h, hk, q⟩
theorem cell_at {ns : List Int} {k : Int} (h0 : 0 ≤ k) (h : k < (ns.map V.int).length) : atI (ns.map V.int) k = some (.int (cell ns k.toNat)) := by
  obtain ⟨n, rfl⟩ := Int.eq_ofNat_of_zero_le h0
  refine atI_nat ?_
  have hn : n < ns.length := by simpa using h
  simp [cell, hn, List.getD_eq_getElem?_getD]
theorem cell_no {ns : List Int} {k : Int} (h0 : 0 ≤ k) (h : ¬ k < (ns.map V.int).length) : cell ns k.toNat = 0 := by
  have : ns.length ≤ k.toNat := by simp at h; omega
  simp [cell, List.getD_eq_getElem?_getD, this]
end L2
namespace L2
open PySem PySem.Spec PyProof.Rows
def withD (sp : Sp) (vs : List V) (H : Hp) (Q : VK) (E : XK) : Prop := ∃ ws, vs = ws ∧ sp ws H Q E
theorem withD_eq (sp : Sp) (vs : List V) (H : Hp) (Q : VK) (E : XK) : withD sp vs H Q E = sp vs H Q E := propext ⟨fun ⟨_, e, h⟩ => e ▸ h, fun h => ⟨vs, rfl, h⟩⟩
def tCallN (sp : Sp) (dvs : List V) (E : XK) (t : TA) : TE := fun σ H Q => t σ H fun vs H1 => withD sp (vs ++ dvs) H1 Q E
theorem tCallN_eq (sp : Sp) (dvs : List V) (E : XK) (t : TA) : tCallN sp dvs E t = tCall sp dvs E t := by
  funext σ H Q; unfold tCallN tCall; congr 1; funext vs H1; exact withD_eq _ _ _ _ _
def tMethN (C : Addr) (m : Str) (sp : Sp) (dvs : List V) (E : XK) (ta : TE) (t : TA) : TE := fun σ H Q => ta σ H fun x H1 => ∃ a dx fs, x = .ref a ∧ H1 a = some (.ins C dx fs) ∧ fs.lookup m = none ∧
  t σ H1 fun vs H2 => withD sp (x :: (vs ++ dvs)) H2 Q E
def MakeP (C : Addr) (sp : Sp) (vs : List V) (H1 : Hp) (Q : VK) (E : XK) : Prop := ∃ ws, vs = ws ∧ ∀ x dx, H1 x = none → H1 dx = none → dx ≠ x →
  sp (.ref x :: ws) (upd (upd H1 dx (.own x)) x (.ins C dx [])) (fun v H2 => v = .non ∧ Q (.ref x) H2) E
def tMakeN (C : Addr) (sp : Sp) (dvs : List V) (E : XK) (t : TA) : TE := fun σ H Q => t σ H fun vs H1 => MakeP C sp (vs ++ dvs) H1 Q E
theorem tMakeN_eq (C : Addr) (sp : Sp) (dvs : List V) (E : XK) (t : TA) : tMakeN C sp dvs E t = tMake C sp dvs E t := by
  funext σ H Q; unfold tMakeN tMake MakeP; congr 1; funext vs H1
  exact propext ⟨fun ⟨_, e, h⟩ => by subst e; exact h, fun h => ⟨_, rfl, h⟩⟩
section
variable {X : Cx} {k : Nat} {f C : Addr} {ps : List Str} {sp : Sp} {dvs : List V} {x m : Str} {p pos apos : Pos} {e o : Expr} {es : List Expr} {ta : TE} {t : TA}
theorem pn_call (c : Cal X.prog X.w X.K X.mg X.base k f ps dvs sp) (hr : Room k X.A) (hg : Gl X x) (hm : X.mg x = some (.ref f)) (hk : PySem.W.keepIn X.K (.ref f) = true)
    (ha : PA X (e :: es) t) (hdb : (x == ("__debug__" : Str)) = false := by decide) (he : starEach (e :: es) X.env = (false, eval e X.env) :: starEach es X.env := by rfl) (hpl : (backTo pos (starEach es X.env)).any (·.1) = false := by rfl) :
    PE X (.Call (.Name x p) (e :: es) [] pos) (tCallN sp dvs E0 t) := by rw [tCallN_eq]; exact pc_call c hr hg hm hk ha hdb he hpl
end
section
variable {σ : St} {H : Hp} {Q : VK} {D : Ends} {K : PySem.W.Frag}
theorem r_callN {sp : Sp} {dvs : List V} {E : XK} {t : TA} (h : t σ H fun vs H1 => withD sp (vs ++ dvs) H1 Q E) : tCallN sp dvs E t σ H Q := h
theorem r_wd {sp : Sp} {vs ws : List V} {E : XK} (e : vs = ws) (h : sp ws H Q E) : withD sp vs H Q E := ⟨ws, e, h⟩
theorem r_makeN {C : Addr} {sp : Sp} {dvs : List V} {E : XK} {t : TA} (h : t σ H fun vs H1 => MakeP C sp (vs ++ dvs) H1 Q E) : tMakeN C sp dvs E t σ H Q := h
theorem r_truB {b : Bool} {R : Bool → Prop} (h : R b) : ∃ k, TruV K (.bl b) H k ∧ R k := ⟨b, rfl, h⟩
end
end L2

namespace L2
open PySem PySem.Spec PyProof.Rows
theorem len64 {n : Nat} (h : Nat.ble n 64 = true) : n ≤ sizeLine := Nat.le_trans (Nat.le_of_ble_eq_true h) (by decide)
end L2

namespace L2
open PySem PySem.Spec PyProof.Rows
theorem got_any {H : Hp} {d : PyData} {Q : VK} (h : ∀ v, Dv H v d → Q v H) : GotD H d Q := by
  cases d with
  | none => exact h _ .non
  | bool b => exact h _ (.bl b)
  | int i => exact h _ (.int i)
  | str x => exact h _ (.str x)
  | list l => exact h
  | tuple l => exact h
  | dict l => exact h
def RetD (H : Hp) (Q : VK) (d : PyData) : Prop := ∀ v H', Same H H' → Dv H' v d → Q v H'
end L2

namespace L2
open PySem PySem.Spec PyProof.Rows
section
variable {X : Cx} {st : Stmt} {rest : List Stmt}
def tCutM (t u : TS) : TS := tCut t u
theorem pss_cutM {t u : TS} (h1 : PS X st t) (h2 : PSs X rest u) : PSs X (st :: rest) (tCutM t u) := pss_cut h1 h2
end
section
variable {σ : St} {H : Hp} {Q : VK} {D : Ends} {K : PySem.W.Frag}
theorem r_cutM {t u : TS} (R : St → Hp → Prop) (h : t { D with nx := R } σ H) (k : ∀ σ' H', R σ' H' → u D σ' H') : tCutM t u D σ H := ⟨R, h, k⟩
theorem r_lstE {xs : List V} {ds : List PyData} (hl : xs.length ≤ sizeLine) (hd : Dvs H xs ds) (k : ∀ p H2, Same H H2 → H p = none → H2 p = some (.lst xs) → Dvs H2 xs ds → Dv H2 (.ref p) (.list ds) → Q (.ref p) H2) : LstP xs H Q := ⟨hl, ds, hd, k⟩
def ForL (K : PySem.W.Frag) (x : V) (g : TG) (tb : TS) (D : Ends) (σ : St) (H1 : Hp) : Prop := ∃ a, x = .ref a ∧ (∃ xs, SqL K H1 a xs) ∧ ∃ W : Nat → Nat → St → Hp → Prop, (∃ m, W 0 m σ H1) ∧ ∀ i m σ H, W i m σ H →
      ((Itl K a).stop i H ∧ D.nx σ H) ∨ ((Itl K a).go i H ∧ ∃ N : St → Hp → Prop, (∀ σ' H', N σ' H' → ∃ m', m' < m ∧ W (i + 1) m' σ' H') ∧ ∀ x H', (Itl K a).yld i H x H' → g x σ H' fun σ2 H2 => tb { D with nx := N, ct := N, bk := D.nx } σ2 H2)
theorem r_for {tl : TE} {g : TG} {tb : TS} (h : tl σ H fun x H1 => ForL K x g tb D σ H1) : tFor (iList K tl) g tb D σ H := h
theorem forL {a : Addr} {xs : List V} {g : TG} {tb : TS} (hl : SqL K H a xs) (Pv : Nat → St → Hp → Prop) (h0 : Pv 0 σ H) (hk : ∀ i σ H, i ≤ xs.length → Pv i σ H → SqL K H a xs)
    (hs : ∀ i x σ H, xs[i]? = some x → Pv i σ H → g x σ H fun σ2 H2 => tb { D with nx := Pv (i + 1), ct := Pv (i + 1), bk := D.nx } σ2 H2) (hd : ∀ σ H, Pv xs.length σ H → D.nx σ H) : ForL K (.ref a) g tb D σ H :=
  ⟨a, rfl, ⟨xs, hl⟩, for_list Pv h0 hk hs hd⟩
theorem forL_same {a : Addr} {xs : List V} {i : Nat} {tb : TS} (hl : SqL K H a xs) (S : Nat → St → Prop) (h0 : S 0 σ)
    (hs : ∀ j x σ' H', xs[j]? = some x → S j σ' → Same H H' → tb { D with nx := fun s h => S (j + 1) s ∧ Same H h, ct := fun s h => S (j + 1) s ∧ Same H h, bk := D.nx } (σ'.set i (some x)) H') (hd : ∀ σ' H', S xs.length σ' → Same H H' → D.nx σ' H') : ForL K (.ref a) (gName i) tb D σ H :=
  forL hl (fun j s h => S j s ∧ Same H h) ⟨h0, Same.refl _⟩ (fun _ _ _ _ p => Same.seq p.2 hl) (fun j x σ' H' hx p => hs j x σ' H' hx p.1 p.2) fun σ' H' p => hd σ' H' p.1 p.2
def ForR (lo : Int) (n : Nat) (g : TG) (tb : TS) (D : Ends) (σ : St) (H1 : Hp) : Prop := ∃ W : Nat → Nat → St → Hp → Prop, (∃ m, W 0 m σ H1) ∧ ∀ i m σ H, W i m σ H →
      ((Itr lo n).stop i H ∧ D.nx σ H) ∨ ((Itr lo n).go i H ∧ ∃ N : St → Hp → Prop, (∀ σ' H', N σ' H' → ∃ m', m' < m ∧ W (i + 1) m' σ' H') ∧ ∀ x H', (Itr lo n).yld i H x H' → g x σ H' fun σ2 H2 => tb { D with nx := N, ct := N, bk := D.nx } σ2 H2)
end
end L2
namespace L2
open PySem PySem.Spec PyProof.Rows
end L2
namespace L2
open PySem PySem.Spec PyProof.Rows
section
variable {X : Cx}
def rMinP : List V → Hp → VK → Prop := fun xs H Q => ∃ i j, xs = [.int i, .int j] ∧ ∀ k, (k = i ∨ k = j) → k ≤ i → k ≤ j → Q (.int k) H
def rMaxP : List V → Hp → VK → Prop := fun xs H Q => ∃ i j, xs = [.int i, .int j] ∧ ∀ k, (k = i ∨ k = j) → i ≤ k → j ≤ k → Q (.int k) H
def rModP : R2 := fun x y H Q => ∃ i j, x = .int i ∧ y = .int j ∧ 0 < j ∧ (0 ≤ i % j → i % j < j → Q (.int (i % j)) H)
theorem op_modP : OpR X (binaryOp .Mod) rModP := fun pins s σ H x y v u Q I rx ry ⟨i, j, e1, e2, hj, h⟩ => op_mod pins s σ H x y v u Q I rx ry ⟨i, j, e1, e2, hj, h (Int.emod_nonneg _ (by omega)) (Int.emod_lt_of_pos _ hj)⟩
end
section
variable {σ : St} {H : Hp} {Q : VK} {D : Ends} {K : PySem.W.Frag}
theorem r_modP {i j : Int} (hj : 0 < j) (h : 0 ≤ i % j → i % j < j → Q (.int (i % j)) H) : rModP (.int i) (.int j) H Q := ⟨i, j, rfl, rfl, hj, h⟩
end
end L2
namespace L2
open PySem PySem.Spec PyProof.Rows
end L2
namespace L2
open PySem PySem.Spec PyProof.Rows
section
variable {σ : St} {H : Hp} {Q : VK} {D : Ends} {K : PySem.W.Frag}
def WTurn (Pv : Nat → St → Hp → Prop) (m : Nat) (tb : TS) (D : Ends) (σ : St) (H1 : Hp) : Prop := ∃ N : St → Hp → Prop, (∀ σ' H', N σ' H' → ∃ m', m' < m ∧ Pv m' σ' H') ∧ tb { D with nx := N, ct := N, bk := D.nx } σ H1
end
end L2
namespace L2
theorem len1000 {n : Nat} (h : Nat.blt n 1000 = true) : n < 1000 := by
  unfold Nat.blt at h
  exact Nat.le_of_ble_eq_true h
end L2

namespace L2
open PySem PySem.Spec PyProof.Rows
section
variable {X : Cx}
def rIsB (f : Bool → Bool) : R2 := fun x y H Q => ∃ b c, x = .bl b ∧ y = .bl c ∧ Q (.bl (f (b == c))) H
def rStrI : List V → Hp → VK → Prop := fun xs H Q => ∃ i, xs = [.int i] ∧ i.natAbs.log2 < 1920 ∧ Q (.str (toString i)) H
theorem call_strI : CallR X (.type "str") rStrI := fun pins s σ H xs us Q I r h => call_str_int pins s σ H xs us Q I r h
end
theorem log_lim {i : Int} (h1 : -(10 ^ 200) < i) (h2 : i < 10 ^ 200) : i.natAbs.log2 < 1920 := by
  by_cases h0 : i.natAbs = 0
  · rw [h0]; decide
  · refine (Nat.log2_lt h0).mpr ?_
    have h3 : i.natAbs < 10 ^ 200 := by
      have e : ((10 : Nat) ^ 200 : Nat) = ((10 : Int) ^ 200).toNat := by decide +kernel
      rw [e]
      generalize (10 : Int) ^ 200 = m at h1 h2 ⊢
      omega
    exact Nat.lt_trans h3 (by decide +kernel)
section
variable {σ : St} {H : Hp} {Q : VK} {D : Ends} {K : PySem.W.Frag}
theorem r_strI {i : Int} (h1 : -(10 ^ 200) < i) (h2 : i < 10 ^ 200) (h : Q (.str (toString i)) H) : rStrI [.int i] H Q := ⟨i, rfl, log_lim h1 h2, h⟩
end
end L2
namespace L2
open PySem PySem.Spec PyProof.Rows
theorem r_powE {H : Hp} {Q : VK} {i j p : Int} (c : CPow i j) (e : i ^ j.toNat = p) (h : Q (.int p) H) : rI CPow (fun i j => .int (i ^ j.toNat)) (.int i) (.int j) H Q := ⟨i, j, rfl, rfl, c, by show Q (.int (i ^ j.toNat)) H; rw [e]; exact h⟩
end L2
namespace L2
open PySem PySem.Spec PyProof.Rows
section
variable {X : Cx} {e : Expr}
def tOrE (t u : TE) : TE := fun σ H Q => t σ H Q ∨ u σ H Q
end
section
variable {σ : St} {H : Hp} {Q : VK} {D : Ends} {K : PySem.W.Frag}
def Unp2 (K : PySem.W.Frag) (x : V) (i j : Nat) (D : Ends) (σ : St) (H : Hp) : Prop := gTup K 2 (gCons (gName i) (gCons (gName j) gNil)) x σ H D.nx
end
end L2
namespace L2
theorem ref_ne {H : Hp} {v : V} {ds : List PySem.PyData} (hb : v = V.non) (hd : Dv H v (.tuple ds)) : False := by
  subst hb; cases hd
end L2

namespace L2
open PySem PySem.Spec PyProof.Rows PySem.W
structure Swo (lt : Nat → Nat → Bool) : Prop where
  irr : ∀ a, lt a a = false
  asy : ∀ a b, lt a b = true → lt b a = false
  ntr : ∀ a b c, lt a b = false → lt b c = false → lt a c = false
section
variable {lt : Nat → Nat → Bool} {n : Nat} {S : Shared → Prop} {cmp : Nat → Nat → (Bool → Shared → Prop) → Shared → Prop}
def Up (lt : Nat → Nat → Bool) (p : Array Nat) (k : Nat) : Prop := ∀ i j, i < j → j < k → lt (p.getD j 0) (p.getD i 0) = false
def Down (lt : Nat → Nat → Bool) (p : Array Nat) (k : Nat) : Prop := ∀ i j, i < j → j < k → lt (p.getD i 0) (p.getD j 0) = false
def Alike (lt : Nat → Nat → Bool) (p : Array Nat) (a b : Nat) : Prop := ∀ i j, a ≤ i → i < b → a ≤ j → j < b → lt (p.getD i 0) (p.getD j 0) = false
structure Ix (n : Nat) (p : Array Nat) : Prop where
  sz : p.size = n
  pm : p.toList.Perm (List.range n)
def Asks (n : Nat) (lt : Nat → Nat → Bool) (S : Shared → Prop) (cmp : Nat → Nat → (Bool → Shared → Prop) → Shared → Prop) : Prop :=
  ∀ i j C s, i < n → j < n → S s → (∀ s', S s' → C (lt i j) s') → cmp i j C s
variable (w : Swo lt) (ha : Asks n lt S cmp)
include w ha
end
end L2

namespace L2
open PySem PySem.Spec PyProof.Rows PySem.W
section
variable {X : Cx} {pins : List (Addr × Obj)} {σ : St} {H H' : Hp} {s : Shared} {a : Addr}
end
def ltS (a b : Str) : Bool := decide (a.cps.toList < b.cps.toList)
def ltIS (a b : Int × Str) : Bool := decide (a.1 < b.1) || (decide (a.1 = b.1) && ltS a.2 b.2)
section
variable {prog : Program} {w : World} {A : Around} {E : Value → Shared → Prop} {s : Shared}
end
end L2

namespace L2
open PySem PySem.Spec PyProof.Rows PySem.W
def KeyRun (sp : Sp) (kf : V → Int × Str) (H : Hp) (xs : List V) : Prop := ∀ v ∈ xs, ∀ H', Same H H' → sp [v] H' (fun y H2 => Same H' H2 ∧ Dv H2 y (.tuple [.int (kf v).1, .str (kf v).2])) E0
def InOrder {α : Type} (lt : α → α → Bool) (kf : V → α) (ys xs : List V) : Prop := ys.Perm xs ∧ ys.Pairwise fun x y => lt (kf y) (kf x) = false
section
variable {X : Cx} {pins : List (Addr × Obj)} {σ : St} {H : Hp} {s : Shared} {k : Nat} {f : Addr} {fd : FuncData} {ps : List Str} {sp : Sp} {kf : V → Int × Str} {A : Around}
structure Keys (X : Cx) (pins : List (Addr × Obj)) (σ : St) (H : Hp) (kf : V → Int × Str) (a kS : Addr) (oa : Obj) (xs : List V) (s' : Shared) : Prop where
  mk ::
  ex : ∃ H' us e ys, Inv X pins σ H' s' ∧ Same H H' ∧ H' a = none ∧ H' kS = none ∧ s'.heap.get? a = some oa ∧ s'.heap.get? kS = some (seqObj "list" (List.toArray us) e) ∧ Vals ys us ∧ Dvs H' ys (xs.map fun v => .tuple [.int (kf v).1, .str (kf v).2])
def SortFin (X : Cx) (pins : List (Addr × Obj)) (σ : St) (H : Hp) {α : Type} (lt : α → α → Bool) (kf : V → α) (xs : List V) (Q : VK) : Prop :=
  ∀ a ys H', Same H H' → H a = none → H' a = none → InOrder lt kf ys xs → Q (.ref a) (upd H' a (.lst ys))
end
end L2

namespace L2
open PySem PySem.Spec PyProof.Rows PySem.W
section
variable {X : Cx} {pins : List (Addr × Obj)} {σ : St} {H : Hp} {s : Shared} {k : Nat} {f : Addr} {fd : FuncData} {ps : List Str} {sp : Sp} {kf : V → Int × Str} {A : Around}
end
end L2

namespace L2
open PySem PySem.Spec PyProof.Rows PySem.W
def SortKP (sp : Sp) (K : PySem.W.Frag) (vs : List V) (H : Hp) (Q : VK) : Prop := ∃ a xs kf, vs = [.ref a] ∧ SqL K H a xs ∧ xs.length < 64 ∧ KeyRun sp kf H xs ∧ ∀ l ys H', Same H H' → H l = none → H' l = none → InOrder ltIS kf ys xs → Q (.ref l) (upd H' l (.lst ys))
def tSortK (K : PySem.W.Frag) (sp : Sp) (t : TA) : TE := fun σ H Q => t σ H fun vs H1 => SortKP sp K vs H1 Q
section
variable {X : Cx} {k : Nat} {f : Addr} {ps : List Str} {sp : Sp} {e : Expr} {t : TA} {x : Str} {p p2 pos kpos : Pos}
end
end L2

namespace L2
open PySem PySem.Spec PyProof.Rows
end L2
namespace L2
open PySem PySem.Spec PyProof.Rows
def cxLC (X : Cx) (N : List Str) (scope : Scope) (cl : List (Str × Addr)) (C : Addr) (s : Shared) (H : Hp) (fp : List Addr) : Cx :=
  { X with N := N, s₀ := s, H₀ := H, env := compEnvC scope cl C X.env, outer := X.stack, stack := X.stack, ex := fp, fn := fun _ => false, pn := [], xe := fun _ _ => False }
structure LCNames (X : Cx) (T M : List Str) (scope : Scope) : Prop where
  kind : scope.kind = .function
  cell : ∀ y ∈ scope.names, y.2 ≠ .cell
  names : ∀ y ∈ scope.names, y.2 = .local → scope.names.lookup y.1 = some .local
  free : ∀ y ∈ scope.names, y.2 = .free → X.env.scope.names.lookup y.1 = some .cell ∨ X.env.scope.names.lookup y.1 = some .free
  len : M.length = X.N.length
  old : ∀ (i : Nat) x, M[i]? = some x → X.N[i]? = some x ∧ scope.names.lookup x = some .free ∨ scope.names.lookup x = none
section
variable {X : Cx} {pins : List (Addr × Obj)} {σ : St} {H : Hp} {s : Shared} {T M : List Str} {scope : Scope} {cl : List (Str × Addr)} {fp : List Addr}
end
end L2

namespace L2
open PySem PySem.Spec PyProof.Rows
def PIf (X : Cx) (ifs : List Expr) (t : TT) : Prop :=
  ∀ (pins : List (Addr × Obj)) (s : Shared) (σ : St) (H : Hp) (Q : Bool → Hp → Prop), Inv X pins σ H s → t σ H Q →
    wpAny (model X.prog X.w) X.A (forIn ifs true fun c r => if r = true then do let ok ← isTrue c X.env (eval c X.env); pure (ForInStep.yield ok) else pure (ForInStep.yield r)) (TP X pins σ Q) X.xe s
def tYes : TT := fun _ H Q => Q true H
def LCW (k : Nat) (g : TG) (tc : TT) (te : TE) (Fin : List V → Hp → Prop) (σ : St) (J : It) (H1 : Hp) : Prop :=
  ∃ W : Nat → Nat → List V → Hp → Prop, (∃ m, W 0 m [] H1) ∧ ∀ i m acc H, W i m acc H →
    (J.stop i H ∧ Fin acc H) ∨ (J.go i H ∧ acc.length < sizeLine ∧ ∀ x H', J.yld i H x H' → g x (List.replicate k none ++ σ) H' fun σ2 H2 => tc σ2 H2 fun b H3 =>
      if b = true then te σ2 H3 fun y H4 => ∃ m', m' < m ∧ W (i + 1) m' (acc ++ [y]) H4 else ∃ m', m' < m ∧ W (i + 1) m' acc H3)
section
variable {X : Cx} {pins : List (Addr × Obj)} {σ : St} {H : Hp} {s : Shared} {T M : List Str} {scope : Scope} {cl : List (Str × Addr)} {fp : List Addr} {g : TG} {tc : TT} {te : TE} {tg elt iter : Expr} {ifs : List Expr} {pos : Pos}
end
end L2

namespace L2
open PySem PySem.Spec PyProof.Rows
def GOwn (k : Nat) (g : TG) : Prop := ∀ v (τ σ : St) H Q, τ.length = k → g v (τ ++ σ) H Q → g v (τ ++ σ) H fun σ2 H2 => Q σ2 H2 ∧ ∃ τ', τ'.length = k ∧ σ2 = τ' ++ σ
def GsOwn (k : Nat) (g : TGs) : Prop := ∀ vs (τ σ : St) H Q, τ.length = k → g vs (τ ++ σ) H Q → g vs (τ ++ σ) H fun σ2 H2 => Q σ2 H2 ∧ ∃ τ', τ'.length = k ∧ σ2 = τ' ++ σ
def LCFin (Q : VK) (acc : List V) (H : Hp) : Prop := ∀ p, H p = none → Q (.ref p) (upd H p (.lst acc))
def tLC (k : Nat) (wi : TI) (g : TG) (tc : TT) (te : TE) : TE := fun σ H Q => wi σ H fun J H1 => LCW k g tc te (LCFin Q) σ J H1
section
variable {X : Cx} {T M : List Str} {scope : Scope} {g : TG} {tc : TT} {te : TE} {wi : TI} {tg elt iter : Expr} {ifs : List Expr} {pos : Pos}
end
end L2

namespace L2
open PySem PySem.Spec PyProof.Rows PySem.W
mutual
def Imm : PyData → Bool
  | .none => true
  | .bool _ => true
  | .int _ => true
  | .str _ => true
  | .tuple ds => ImmAll ds
  | .list _ => false
  | .dict _ => false
def ImmAll : List PyData → Bool
  | [] => true
  | d :: ds => Imm d && ImmAll ds
end
structure Mv (S : List Addr) (H H' : Hp) : Prop where
  kp : ∀ a o, a ∉ S → H a = some o → H' a = some o
  tp : ∀ a xs, H a = some (.tup xs) → H' a = some (.tup xs)
  dm : ∀ a, H' a = none → H a = none
mutual
theorem Dv.imm {H H' : Hp} (t : ∀ a xs, H a = some (.tup xs) → H' a = some (.tup xs)) : ∀ {v : V} {d : PyData}, Dv H v d → Imm d = true → Dv H' v d
  | _, _, .non, _ => .non
  | _, _, .bl b, _ => .bl b
  | _, _, .int i, _ => .int i
  | _, _, .str x, _ => .str x
  | _, _, .tup h r, c => .tup (t _ _ h) (Dvs.imm t r (by simpa [Imm] using c))
  | _, _, .lst h r, c => by simp [Imm] at c
  | _, _, .dct h r, c => by simp [Imm] at c
theorem Dvs.imm {H H' : Hp} (t : ∀ a xs, H a = some (.tup xs) → H' a = some (.tup xs)) : ∀ {v : List V} {d : List PyData}, Dvs H v d → ImmAll d = true → Dvs H' v d
  | _, _, .nil, _ => .nil
  | _, _, .cons h r, c => by
    have c' := c
    simp only [ImmAll, Bool.and_eq_true] at c'
    exact .cons (Dv.imm t h c'.1) (Dvs.imm t r c'.2)
end
def LAt (H : Hp) (p : Addr) (ds : List PyData) : Prop := ∃ xs, H p = some (.lst xs) ∧ Dvs H xs ds ∧ ImmAll ds = true
theorem small {n m : Nat} (h : n ≤ m) (hm : m ≤ 4000 := by decide) : n ≤ sizeLine := Nat.le_trans h (Nat.le_trans hm (by decide))
section
variable {σ : St} {H : Hp} {Q : VK} {D : Ends} {K : PySem.W.Frag} {p : Addr} {ds : List PyData}
end
end L2

namespace L2
open PySem PySem.Spec PyProof.Rows PySem.W
mutual
theorem Dv.fn {H : Hp} : ∀ {v : V} {d e : PyData}, Dv H v d → Dv H v e → Imm d = true → d = e
  | _, _, _, .non, h, _ => by cases h; rfl
  | _, _, _, .bl b, h, _ => by cases h; rfl
  | _, _, _, .int i, h, _ => by cases h; rfl
  | _, _, _, .str x, h, _ => by cases h; rfl
  | _, _, _, .tup h r, h2, c => by
    cases h2 with
    | tup h' r' =>
      have c' := (by simpa [Imm] using c : ImmAll _ = true)
      rw [h] at h'
      cases h'
      rw [Dvs.fn r r' c']
    | lst h' r' =>
      rcases h' with h' | ⟨o, h'⟩ <;> rw [h] at h' <;> cases h'
    | dct h' r' => rw [h] at h'; cases h'
  | _, _, _, .lst h r, _, c => by simp [Imm] at c
  | _, _, _, .dct h r, _, c => by simp [Imm] at c
theorem Dvs.fn {H : Hp} : ∀ {v : List V} {d e : List PyData}, Dvs H v d → Dvs H v e → ImmAll d = true → d = e
  | _, _, _, .nil, h, _ => by cases h; rfl
  | _, _, _, .cons h r, h2, c => by
    have c' := c
    simp only [ImmAll, Bool.and_eq_true] at c'
    cases h2 with
    | cons h' r' => rw [Dv.fn h h' c'.1, Dvs.fn r r' c'.2]
end
theorem Dv.lst_inv {H : Hp} {v : V} {ds : List PyData} (h : Dv H v (.list ds)) : ∃ a xs, v = .ref a ∧ (∀ K : PySem.W.Frag, SqL K H a xs) ∧ Dvs H xs ds := by
  cases h with
  | lst h r => exact ⟨_, _, rfl, fun _ => .inl h, r⟩
section
variable {σ : St} {H : Hp} {Q : VK} {D : Ends} {K : PySem.W.Frag} {p : Addr} {v : V} {ds : List PyData}
def LCT (te : TE) (N : Option V → Hp → Prop) (σ2 : St) (b : Bool) (H3 : Hp) : Prop := if b = true then te σ2 H3 (fun y H4 => N (some y) H4) else N none H3
end
end L2
namespace L2
open PySem PySem.Spec PyProof.Rows PySem.W
def lcCheck (scope sc : Scope) (N M : List Str) : Bool :=
  (scope.kind == .function) && scope.names.all (fun y => y.2 != .cell) && scope.names.all (fun y => y.2 != .local || scope.names.lookup y.1 == some .local) &&
    scope.names.all (fun y => y.2 != .free || (sc.names.lookup y.1 == some .cell || sc.names.lookup y.1 == some .free)) && (M.length == N.length) &&
    (M.zip N).all fun p => (p.1 == p.2 && scope.names.lookup p.1 == some .free) || scope.names.lookup p.1 == none
section
variable {σ : St} {H : Hp} {Q : VK} {D : Ends} {K : PySem.W.Frag} {p : Addr} {v : V} {ds : List PyData}
def rAddS : R2 := fun x y H Q => ∃ i j, x = .str i ∧ y = .str j ∧ i.length + j.length ≤ sizeLine ∧ Q (.str (i ++ j)) H
def rListOf (K : PySem.W.Frag) : List V → Hp → VK → Prop := fun xs H Q => ∃ p ys, xs = [.ref p] ∧ (SqL K H p ys ∨ SqT K H p ys) ∧ ∀ l, H l = none → Q (.ref l) (upd H l (.lst ys))
theorem cut_nat (xs : List V) (i j : Nat) : cutV xs (some (i : Int)) (some (j : Int)) = (xs.drop i).take (j - i) := by
  unfold cutV
  rw [HT.sIx_nat, HT.sIx_nat]
  by_cases h : i ≤ xs.length
  · rw [Nat.min_eq_left h]
    by_cases h2 : j ≤ xs.length
    · rw [Nat.min_eq_left h2]
    · rw [Nat.min_eq_right (by omega)]
      rw [List.take_of_length_le (by rw [List.length_drop]; omega), List.take_of_length_le (by rw [List.length_drop]; omega)]
  · rw [List.drop_of_length_le (show xs.length ≤ min i xs.length by omega), List.drop_of_length_le (show xs.length ≤ i by omega), List.take_nil, List.take_nil]
theorem r_sl {te : TE} {tl th : TO} {r : V → Option Int → Option Int → Hp → VK → Prop} (h : te σ H fun x H1 => tl σ H1 fun l H2 => th σ H2 fun u H3 => r x l u H3 Q) : tSl r te tl th σ H Q := h
theorem r_part {t : TE} {R : Option Int → Hp → Prop} (h : t σ H fun x H1 => ∃ i, x = .int i ∧ R (some i) H1) : tPart t σ H R := h
theorem r_noPart {R : Option Int → Hp → Prop} (h : R none H) : tNoPart σ H R := h
theorem r_partI {i : Int} {R : Int → Prop} (h : R i) : ∃ j, V.int i = .int j ∧ R j := ⟨i, rfl, h⟩
def Unp3 (K : PySem.W.Frag) (x : V) (i j l : Nat) (R : St → Hp → Prop) (σ : St) (H : Hp) : Prop := gTup K 3 (gCons (gName i) (gCons (gName j) (gCons (gName l) gNil))) x σ H R
end
end L2
namespace L2
end L2
namespace L2
open PySem
theorem atI_mapI {α β : Type} [Inhabited α] {f : α → β} {xs : List α} {i : Int} (h0 : 0 ≤ i) (h1 : i < xs.length) : atI (xs.map f) i = some (f (xs.getD i.toNat default)) := by
  obtain ⟨m, rfl⟩ := Int.eq_ofNat_of_zero_le h0
  have hm : m < xs.length := by omega
  refine atI_nat ?_
  rw [List.getElem?_map, List.getElem?_eq_getElem hm]
  simp [hm]
end L2
namespace L2
open PySem
end L2
namespace L2
open PySem
end L2
namespace L2
open PySem
end L2
namespace L2
open PySem
end L2
namespace L2
open PySem PySem.Spec PyProof.Rows
section
variable {X : Cx} {K : PySem.W.Frag} {a b e : Expr} {es : List Expr} {ta : TE} {pos : Pos}
theorem pt_truthK (h : X.K = K) (ha : PE X a ta) (he : ∀ whole, isTrue a X.env whole = (do let v ← whole; standAt a.pos; holding [v] (truthy v))) : PT X a (fun σ H Q => ta σ H fun x H' => ∃ k, TruV K x H' k ∧ Q k H') := by rw [← h]; exact pt_truth ha he
end
end L2

namespace L2
open PySem PySem.Spec PyProof.Rows PySem.W
inductive DKs (H : Hp) : List (Key × V) → List (Str × PyData) → Prop where
  | nil : DKs H [] []
  | cons {k : Str} {v : V} {d : PyData} {kvs : List (Key × V)} {m : List (Str × PyData)} (h : Dv H v d) (i : Imm d = true) (r : DKs H kvs m) : DKs H ((.inr k, v) :: kvs) ((k, d) :: m)
def lkp (m : List (Str × PyData)) (k : Str) : Option PyData := (m.find? fun kv => decide (kv.1 = k)).map (·.2)
def putD (m : List (Str × PyData)) (k : Str) (d : PyData) : List (Str × PyData) := if (m.any fun kv => decide (kv.1 = k)) = true then m.map (fun kv => if kv.1 = k then (kv.1, d) else kv) else m ++ [(k, d)]
def dropD (m : List (Str × PyData)) (k : Str) : List (Str × PyData) := m.filter fun kv => decide (kv.1 ≠ k)
def DAt (H : Hp) (p : Addr) (m : List (Str × PyData)) : Prop := ∃ kvs, H p = some (.dK kvs) ∧ DKs H kvs m
section
variable {σ : St} {H : Hp} {Q : VK} {D : Ends} {K : PySem.W.Frag} {p : Addr} {m : List (Str × PyData)} {k : Str}
def rLenD : List V → Hp → VK → Prop := fun xs H Q => ∃ a kvs, xs = [V.ref a] ∧ H a = some (.dK kvs) ∧ Q (.int kvs.length) H
def ow : Option Int → V | none => .non | some i => .int i
def owD : Option Int → PyData | none => .none | some i => .int i
end
end L2
namespace L2
end L2
namespace L2
open PySem
end L2
namespace L2
open PySem
end L2

namespace L2
open PySem PySem.Spec PyProof.Rows PySem.W
def Its (x : Str) : It := ⟨fun i _ => i < x.cps.size, fun i H v H' => H' = H ∧ ∃ c, x.cps[i]? = some c ∧ v = .str ⟨#[c]⟩, fun i _ => i = x.cps.size⟩
def iStr (tl : TE) : TI := fun σ H R => tl σ H fun v H1 => ∃ x, v = .str x ∧ R (Its x) H1
section
variable {X : Cx} {tg : Expr}
def rLeS : R2 := fun x y H Q => ∃ i j, x = .str i ∧ y = .str j ∧ Q (.bl (!ltS j i)) H
def rAll : List V → Hp → VK → Prop := fun xs H Q => ∃ (v : V) (bs : List Bool), xs = [v] ∧ Dv H v (.list (bs.map PyData.bool)) ∧ Q (.bl (bs.all id)) H
def rAny : List V → Hp → VK → Prop := fun xs H Q => ∃ (v : V) (bs : List Bool), xs = [v] ∧ Dv H v (.list (bs.map PyData.bool)) ∧ Q (.bl (bs.any id)) H
section
variable {σ : St} {H : Hp} {Q : VK} {D : Ends} {K : PySem.W.Frag}
def ForS (x : V) (g : TG) (tb : TS) (D : Ends) (σ : St) (H1 : Hp) : Prop := ∃ z, x = .str z ∧ ∃ W : Nat → Nat → St → Hp → Prop, (∃ m, W 0 m σ H1) ∧ ∀ i m σ H, W i m σ H →
      ((Its z).stop i H ∧ D.nx σ H) ∨ ((Its z).go i H ∧ ∃ N : St → Hp → Prop, (∀ σ' H', N σ' H' → ∃ m', m' < m ∧ W (i + 1) m' σ' H') ∧ ∀ x H', (Its z).yld i H x H' → g x σ H' fun σ2 H2 => tb { D with nx := N, ct := N, bk := D.nx } σ2 H2)
end
end
end L2
namespace L2
open PySem
section
variable {H : Hp} {Q : VK} {K : PySem.W.Frag}
def rNinS : R2 := fun x y H Q => ∃ i j, x = .str i ∧ y = .str j ∧ Q (.bl (!(!(Builtin.Str.occurrences j i 0 j.length 1).isEmpty))) H
def rInS' : R2 := fun x y H Q => ∃ i j, x = .str i ∧ y = .str j ∧ Q (.bl (!(Builtin.Str.occurrences j i 0 j.length 1).isEmpty)) H
end
end L2

namespace L2
open PySem PySem.Spec PyProof.Rows PySem.W
section
variable {X : Cx}
def rJoin : V → List V → Hp → VK → Prop := fun x vs H Q => ∃ (sep : Str) (v : V) (ss : List Str), x = .str sep ∧ vs = [v] ∧ Dv H v (.list (ss.map PyData.str)) ∧ (ss.map (·.length)).sum + ss.length * sep.length ≤ 16777216 ∧ Q (.str (Txt.join sep ss)) H
end
section
variable {σ : St} {H : Hp} {Q : VK} {D : Ends} {K : PySem.W.Frag} {p : Addr} {ds : List PyData}
theorem Dvs.drop {H : Hp} : ∀ {xs : List V} {ds : List PyData} (n : Nat), Dvs H xs ds → Dvs H (xs.drop n) (ds.drop n)
  | _, _, 0, h => h
  | _, _, _ + 1, .nil => .nil
  | _, _, n + 1, .cons _ r => Dvs.drop n r
theorem Dvs.take {H : Hp} : ∀ {xs : List V} {ds : List PyData} (n : Nat), Dvs H xs ds → Dvs H (xs.take n) (ds.take n)
  | _, _, 0, _ => .nil
  | _, _, _ + 1, .nil => .nil
  | _, _, n + 1, .cons h r => .cons h (Dvs.take n r)
theorem cut_from (xs : List V) (i : Nat) : cutV xs (some (i : Int)) none = xs.drop i := by
  have h1 : HT.sIx xs.length 0 (some (i : Int)) = min i xs.length := by
    simp only [HT.sIx]
    rw [if_neg (by omega)]
    omega
  have h2 : HT.sIx xs.length xs.length none = xs.length := rfl
  show (xs.drop (HT.sIx xs.length 0 (some (i : Int)))).take (HT.sIx xs.length xs.length none - HT.sIx xs.length 0 (some (i : Int))) = _
  rw [h1, h2]
  by_cases h : i ≤ xs.length
  · rw [Nat.min_eq_left h, List.take_of_length_le (by rw [List.length_drop]; omega)]
  · rw [List.drop_of_length_le (show xs.length ≤ min i xs.length by omega), List.drop_of_length_le (show xs.length ≤ i by omega), List.take_nil]
theorem cut_to (xs : List V) (j : Nat) : cutV xs none (some (j : Int)) = xs.take j := by
  have h1 : HT.sIx xs.length xs.length (some (j : Int)) = min j xs.length := by
    simp only [HT.sIx]
    rw [if_neg (by omega)]
    omega
  have h2 : HT.sIx xs.length 0 none = 0 := rfl
  show (xs.drop (HT.sIx xs.length 0 none)).take (HT.sIx xs.length xs.length (some (j : Int)) - HT.sIx xs.length 0 none) = _
  rw [h1, h2, List.drop_zero, Nat.sub_zero]
  by_cases h : j ≤ xs.length
  · rw [Nat.min_eq_left h]
  · rw [List.take_of_length_le (show xs.length ≤ min j xs.length by omega), List.take_of_length_le (show xs.length ≤ j by omega)]
end
end L2

namespace L2
open PySem PySem.Calls PyProof.Rows
section
variable {X : Cx} {e k : Expr} {te tk : TE} {pos p2 : Pos}
def rRevL (K : PySem.W.Frag) : V → V → Hp → VK → Prop := fun x y H Q => ∃ a xs, x = .ref a ∧ y = .int (-1) ∧ SqL K H a xs ∧ ∀ p, H p = none → Q (.ref p) (upd H p (.lst xs.reverse))
def tSlR (K : PySem.W.Frag) (te tk : TE) : TE := fun σ H Q => te σ H fun x H1 => tk σ H1 fun y H2 => rRevL K x y H2 Q
end
section
variable {X : Cx}
def rLtS : R2 := fun x y H Q => ∃ i j, x = .str i ∧ y = .str j ∧ Q (.bl (ltS i j)) H
end
section
variable {K : PySem.W.Frag} {σ : St} {H : Hp} {Q : VK} {p : Addr} {ds : List PyData}
end
end L2

namespace L2
open PySem PySem.Spec PyProof.Rows PySem.W
def rSlS : V → Option Int → Option Int → Hp → VK → Prop := fun x lo hi H Q => ∃ z : Str, x = .str z ∧ z.length ≤ 4000 ∧ ∀ y : Str, (∀ c ∈ y.cps.toList, c ∈ z.cps.toList) → y.length ≤ z.length → Q (.str y) H
section
variable {X : Cx}
def UpS (ss : List Str) : Prop := ss.Pairwise fun a b => ltS b a = false
def rSortS : List V → Hp → VK → Prop := fun xs H Q => ∃ (v : V) (ss : List Str), xs = [v] ∧ Dv H v (.list (ss.map PyData.str)) ∧ ss.length < 64 ∧ ∀ (q : Addr) (H' : Hp) (ss' : List Str), Same H H' → H q = none → ss'.Perm ss → UpS ss' → LAt H' q (ss'.map PyData.str) → Q (.ref q) H'
def rSumL : List V → Hp → VK → Prop := fun xs H Q => ∃ (v : V) (ns : List Int), xs = [v] ∧ Dv H v (.list (ns.map PyData.int)) ∧ Q (.int ns.sum) H
end
end L2
namespace L2
open PySem PySem.Spec PyProof.Rows PySem.W
section
variable {prog : Program} {w : World} {A : Around} {E : Value → Shared → Prop} {s : Shared} {it l : Addr} {its : Array Value}
end
section
variable {X : Cx} {e : Expr} {te : TE} {p p2 pos pos2 : Pos}
def rRevOf (K : PySem.W.Frag) : V → Hp → VK → Prop := fun x H Q => ∃ a xs, x = .ref a ∧ SqL K H a xs ∧ ∀ q, H q = none → Q (.ref q) (upd H q (.lst xs.reverse))
def tRevOf (K : PySem.W.Frag) (te : TE) : TE := fun σ H Q => te σ H fun x H1 => rRevOf K x H1 Q
end
section
variable {K : PySem.W.Frag} {σ : St} {H : Hp} {Q : VK} {p : Addr} {ds : List PyData} {v : V}
end
end L2

namespace L2
open PySem PySem.Spec PyProof.Rows PySem.W
def Tr (h : Heap) (a T : Addr) (c : Value) : Prop := ∃ oe vs oT ts, h.get? a = some oe ∧ oe.cls = c ∧ oe.dict = none ∧ oe.data = .fields vs ∧ vs[1]? = some (.ref T) ∧ T ≠ a ∧ h.get? T = some oT ∧ oT.data = .fields ts ∧ ts[3]? = some .none ∧ vs[2]? = some .none
structure Lv (l : List Env) (S : List Addr) (h h' : Heap) : Prop where
  keep : ∀ b o, b ∉ frs l → b ∉ S → h.get? b = some o → h'.get? b = some o
  slot : ∀ b o, b ∈ frs l → h.get? b = some o → ∃ sl, h'.get? b = some { o with slots := sl }
section
variable {M : Model} {A : Around} {E : Value → Shared → Prop} {s : Shared} {env : Env} {outer : List Env} {L a T : Addr} {c : Value} {base : Heap} {Q : Unit → Shared → Prop}
theorem entry_ok {oe : Obj} {vs : Array Value} {head : Value} {had : Bool} (hfr : A.frames = some (env :: outer)) (hl : s.heap.FunFrames base (env :: outer)) (hf : env.frame = some L) (he : s.heap.get? a = some oe) (hdn : oe.dict = none) (hd : oe.data = .fields vs) (hsz : 1 < vs.size) (hv2 : vs[2]? = some .none)
    (h : ∀ h' T', Tr h' a T' oe.cls → s.heap.get? T' = none → Lv (env :: outer) [a] s.heap h' → Q () { s with heap := h' }) :
    wpAny M A (do let x ← frameOf env; let pl ← entryPlaceOf L had; let b ← EntryCells.newEntry head x .none (rawInt L) .none pl; setField (.ref a) 1 b) (fun _ s' => wpAny M A (setFlight (.ref a) none) Q E s') E s := by
  have hae : a ∉ frs (env :: outer) := fun m => by
    obtain ⟨_, o, ho, hn⟩ := hl.mem m
    rw [he] at ho
    cases ho
    exact hn vs hd
  refine wpAny_bind (wpAny_frameOf_fun hfr hl hf fun h1 s1 => ?_)
  refine wpAny_bind (wpAny_entryPlaceOf fun pl hpl => ?_)
  unfold EntryCells.newEntry newFields
  refine wpAny_bind (wpAny_newObj_type ?_ (hpl.sizeOk5 _ _ _ _ _))
  have e1 : h1.get? a = some oe := (s1.2.1 a hae).trans he
  let tb : Obj := { cls := .type "traceback", dict := none, data := .fields ([head, .ref L, .none, rawInt L, .none] ++ (if pl.isEmpty then List.replicate 6 Value.none else pl)).toArray }
  have e2 : (h1.push tb).get? a = some oe := Heap.get?_push_of_some _ e1
  refine wpAny_setField e2 hd hsz ?_
  have hTa : h1.objs.size ≠ a := Ne.symm (Nat.ne_of_lt (Heap.lt_size e1))
  have d3 := Obj.data_mapFields hd (·.setIfInBounds 1 (Value.ref h1.objs.size))
  have e3 := Heap.get?_update_self (Obj.mapFields (·.setIfInBounds 1 (Value.ref h1.objs.size))) e2 (Obj.isFreed_of_fields d3)
  have t3 : ((h1.push tb).update a (Obj.mapFields (·.setIfInBounds 1 (Value.ref h1.objs.size)))).get? h1.objs.size = some tb := (Heap.get?_update_other _ _ (Ne.symm hTa)).trans (Heap.get?_push_size h1 rfl)
  unfold setFlight
  refine wpAny_bind (wpAny_field e3 d3 (x := .ref h1.objs.size) (by simp [hsz]) ?_)
  rw [if_pos (show (Value.ref h1.objs.size != Value.none) = true from by simp)]
  refine wpAny_setField t3 rfl (by simp only [List.size_toArray, List.length_append, List.length_cons, List.length_nil] <;> omega) (h _ h1.objs.size ?_ ?_ ?_)
  · refine ⟨_, _, _, _, (Heap.get?_update_other _ _ hTa).trans e3, Obj.cls_mapFields _ _, ?_, d3, by simp [hsz], hTa, Heap.get?_update_self _ t3 (Obj.isFreed_of_fields (Obj.data_mapFields rfl _)), Obj.data_mapFields rfl _, by first | (simp; done) | (rcases hpl with rfl | ⟨_, _, _, _, _, _, _, rfl⟩ <;> simp), by rw [Array.getElem?_setIfInBounds_ne (by decide)]; exact hv2⟩
    obtain ⟨c0, d0, dt0, sl0⟩ := oe
    cases dt0 <;> first | exact hdn | (cases hd)
  · cases q : s.heap.get? h1.objs.size with
    | none => rfl
    | some o =>
      obtain ⟨sl, z⟩ := s1.2.2 _ o q
      exact absurd (Heap.lt_size z) (Nat.lt_irrefl _)
  · have kp : ∀ b o, b ≠ a → h1.get? b = some o → (((h1.push tb).update a (Obj.mapFields (·.setIfInBounds 1 (Value.ref h1.objs.size)))).update h1.objs.size (Obj.mapFields (·.setIfInBounds 3 ((none : Option Addr).elim Value.none fun f => rawInt f)))).get? b = some o := fun b o hb q => by
      rw [Heap.get?_update_other _ _ (Ne.symm (Nat.ne_of_lt (Heap.lt_size q))), Heap.get?_update_other _ _ (Ne.symm hb)]
      exact Heap.get?_push_of_some _ q
    refine ⟨fun b o n1 n2 q => kp b o (by simpa using n2) ((s1.2.1 b n1).trans q), fun b o m q => ?_⟩
    obtain ⟨sl, z⟩ := s1.2.2 b o q
    exact ⟨sl, kp b _ (fun z => hae (z ▸ m)) z⟩
theorem note_first {oe : Obj} {vs : Array Value} (hfr : A.frames = some (env :: outer)) (hl : s.heap.FunFrames base (env :: outer)) (hf : env.frame = some L) (he : s.heap.get? a = some oe) (hdn : oe.dict = none) (hd : oe.data = .fields vs) (h1 : vs[1]? = some .none) (hv2 : vs[2]? = some .none)
    (h : ∀ h' T', Tr h' a T' oe.cls → s.heap.get? T' = none → Lv (env :: outer) [a] s.heap h' → Q () { s with heap := h' }) : wpAny M A (noteFrame (.ref a) env) (fun _ s' => wpAny M A (setFlight (.ref a) none) Q E s') E s := by
  unfold noteFrame
  simp only [hf]
  refine wpAny_bind (wpAny_field he hd h1 ?_)
  rw [if_neg (by decide)]
  exact entry_ok hfr hl hf he hdn hd (Array.getElem?_eq_some_iff.mp h1).1 hv2 h
theorem note_next (hfr : A.frames = some (env :: outer)) (hl : s.heap.FunFrames base (env :: outer)) (hf : env.frame = some L) (ht : Tr s.heap a T c)
    (h : ∀ h' T', Tr h' a T' c → (T' = T ∨ s.heap.get? T' = none) → Lv (env :: outer) [a, T] s.heap h' → Q () { s with heap := h' }) : wpAny M A (noteFrame (.ref a) env) (fun _ s' => wpAny M A (setFlight (.ref a) none) Q E s') E s := by
  obtain ⟨oe, vs, oT, ts, e1, rfl, e3, e4, e5, e6, e7, e8, e9, e10⟩ := ht
  unfold noteFrame
  simp only [hf]
  refine wpAny_bind (wpAny_field e1 e4 e5 ?_)
  rw [if_pos (show (Value.ref T != Value.none) = true from by simp)]
  refine wpAny_bind (wpAny_field e7 e8 e9 ?_)
  rw [if_neg (show ¬ ((Value.none == rawInt L) = true) from by simp [rawInt])]
  refine wpAny_bind (wpAny_setField e7 e8 (Array.getElem?_eq_some_iff.mp e9).1 ?_)
  have oth : ∀ b, b ≠ T → (s.heap.update T (Obj.mapFields (·.setIfInBounds 3 Value.none))).get? b = s.heap.get? b := fun b hb => Heap.get?_update_other _ _ (Ne.symm hb)
  have nT : ∀ b o, s.heap.get? b = some o → (∀ vs, o.data ≠ .fields vs) → b ≠ T := fun b o hb hn z => by
    rw [z, e7] at hb
    cases hb
    exact hn ts e8
  refine entry_ok (s := { s with heap := s.heap.update T (Obj.mapFields (·.setIfInBounds 3 Value.none)) }) hfr (hl.of_keeps fun b o hb hn => ⟨o, (oth b (nT b o hb hn)).trans hb, rfl⟩) hf ((oth a (Ne.symm e6)).trans e1) e3 e4 (Array.getElem?_eq_some_iff.mp e5).1 e10 fun h' T' t1 t2 lv => h h' T' t1 ?_ ⟨fun b o n1 n2 q => ?_, fun b o m q => ?_⟩
  · by_cases z : T' = T
    · exact .inl z
    · exact .inr ((oth T' z).symm.trans t2)
  · have : b ≠ a ∧ b ≠ T := by simpa using n2
    exact lv.keep b o n1 (by simpa using this.1) ((oth b this.2).trans q)
  · obtain ⟨_, o', q', hn⟩ := hl.mem m
    rw [q] at q'
    cases q'
    exact lv.slot b o m ((oth b (nT b o q hn)).trans q)
theorem leave_next (hfr : A.frames = some (env :: outer)) (hl : s.heap.FunFrames base (env :: outer)) (hf : env.frame = some L) (ht : Tr s.heap a T c)
    (h : ∀ h' T', Tr h' a T' c → (T' = T ∨ s.heap.get? T' = none) → Lv (env :: outer) [a, T] s.heap h' → Q () { s with heap := h' }) : wpAny M A (leaving env (.ref a)) Q E s := wpAny_bind (note_next hfr hl hf ht h)
theorem leave_first {oe : Obj} {vs : Array Value} (hfr : A.frames = some (env :: outer)) (hl : s.heap.FunFrames base (env :: outer)) (hf : env.frame = some L) (he : s.heap.get? a = some oe) (hdn : oe.dict = none) (hd : oe.data = .fields vs) (h1 : vs[1]? = some .none) (hv2 : vs[2]? = some .none)
    (h : ∀ h' T', Tr h' a T' oe.cls → s.heap.get? T' = none → Lv (env :: outer) [a] s.heap h' → Q () { s with heap := h' }) : wpAny M A (leaving env (.ref a)) Q E s := wpAny_bind (note_first hfr hl hf he hdn hd h1 hv2 h)
theorem flight_again (ht : Tr s.heap a T c) (h : ∀ h', Tr h' a T c → (∀ b o, b ≠ T → s.heap.get? b = some o → h'.get? b = some o) → Q () { s with heap := h' }) : wpAny M A (setFlight (.ref a) none) Q E s := by
  obtain ⟨oe, vs, oT, ts, e1, rfl, e3, e4, e5, e6, e7, e8, e9, e10⟩ := ht
  have hz := (Array.getElem?_eq_some_iff.mp e9).1
  refine wpAny_setFlight_none e1 e4 e5 e7 e8 hz (h _ ⟨oe, vs, _, _, (Heap.get?_update_other _ _ e6).trans e1, rfl, e3, e4, e5, e6, Heap.get?_update_self _ e7 (Obj.isFreed_of_fields (Obj.data_mapFields e8 _)), Obj.data_mapFields e8 _, by simp [hz], e10⟩ fun b o hb q => (Heap.get?_update_other _ _ (Ne.symm hb)).trans q)
end
theorem ObjOk.live {P : Program} {w : World} {H : Hp} {h : Heap} {a : Addr} {o : HO} (x : ObjOk P w H h a o) : ∃ ob, h.get? a = some ob := by
  induction o with
  | lst xs => obtain ⟨_, _, _, _, e⟩ := x; exact ⟨_, e⟩
  | tup xs => obtain ⟨_, _, _, ob, e, _⟩ := x; exact ⟨_, e⟩
  | dK kvs => obtain ⟨_, _, _, _, o, _, _, e, _⟩ := x; exact ⟨_, e⟩
  | dT kvs => obtain ⟨_, _, _, _, o, _, _, e, _⟩ := x; exact ⟨_, e⟩
  | set S n => obtain ⟨o, _, _, _, e, _⟩ := x; exact ⟨_, e⟩
  | ins C dx fs => obtain ⟨_, _, _, e, _⟩ := x; exact ⟨_, e⟩
  | own y => exact x
  | xd fs => obtain ⟨_, ⟨_, _, _, e, _⟩, _⟩ := x; exact ⟨_, e⟩
  | rng lo hi => obtain ⟨_, _, _, e⟩ := x; exact ⟨_, e⟩
  | frz ob u _ => exact ⟨_, x.1⟩
  | tbl ps => exact ⟨_, x⟩
  | met f y => exact ⟨_, x⟩
  | ext φ => exact x.2.1
theorem HOk.dead {P : Program} {w : World} {H : Hp} {h : Heap} {a : Addr} (ok : HOk P w H h) (n : h.get? a = none) : H a = none := by
  cases e : H a with
  | none => rfl
  | some u =>
    obtain ⟨o, z⟩ := (ok a u e).live
    rw [n] at z
    cases z
def CXR (P : Program) (w : World) : CXT := fun outer H s E e s' => ∃ a T C H', e = .ref a ∧ s'.os = s.os ∧ AllBare s'.gens ∧ Un (frs outer) [] H H' s.heap s'.heap ∧ HOk P w H' s'.heap ∧ Tr s'.heap a T (.ref C) ∧ s.heap.get? a = none ∧ s.heap.get? T = none ∧ H' a = none ∧ H' T = none ∧ E (.ref C) none H'
section
variable {P : Program} {w : World} {K : PySem.W.Frag} {mg : Str → Option Value} {base : Heap} {N : List Str} {qual : Str} {scope : Scope} {f : Addr} {cd : Value} {A : Around} {outer : List Env} {s0 : Shared} {H0 : Hp} {E : XK} {CX : CXT} {pins : List (Addr × Obj)} {σ : St} {H : Hp} {s : Shared}
theorem cx_left {a T C : Addr} {S : List Addr} {h' : Heap} (I : Inv (cxOf CX P w K mg base N qual scope f cd A outer s0 H0 E) pins σ H s) (lv : Lv (cxOf CX P w K mg base N qual scope f cd A outer s0 H0 E).stack S s.heap h') (hS : ∀ b ∈ S, H b = none ∧ s0.heap.get? b = none)
    (tr : Tr h' a T (.ref C)) (ha : H a = none) (hT : H T = none) (na : s0.heap.get? a = none) (nT : s0.heap.get? T = none) (hE : E (.ref C) none H) : CXR P w outer H0 s0 E (.ref a) { s with heap := h' } := by
  have eL : frs (cxOf CX P w K mg base N qual scope f cd A outer s0 H0 E).stack = s0.heap.objs.size :: frs outer := rfl
  have old : ∀ b o, s0.heap.get? b = some o → b ∉ S ∧ b ≠ s0.heap.objs.size := fun b o e => ⟨fun z => (by rw [(hS b z).2] at e; cases e), Nat.ne_of_lt (Heap.lt_size e)⟩
  refine ⟨a, T, C, H, rfl, I.os, I.bare, ⟨fun b o e n hb hx => ?_, fun b o e n hb hx => ?_, fun b o e n hx => I.base.free b o e n hx, fun b o e hx => ?_, I.base.tups, I.base.frzs, I.base.tbls⟩, fun b u e => ?_, tr, na, nT, ha, hT, hE⟩
  · have z := I.base.keep b o e n hb hx
    exact lv.keep b o (by rw [eL]; simp [(old b o e).2, hb]) (old b o e).1 z
  · obtain ⟨sl, z⟩ := I.base.slot b o e n hb hx
    obtain ⟨sl2, z2⟩ := lv.slot b _ (by rw [eL]; exact List.mem_cons_of_mem _ hb) z
    exact ⟨sl2, z2⟩
  · obtain ⟨o2, z⟩ := I.base.there b o e hx
    by_cases m : b ∈ frs (cxOf CX P w K mg base N qual scope f cd A outer s0 H0 E).stack
    · obtain ⟨sl2, z2⟩ := lv.slot b _ m z
      exact ⟨_, z2⟩
    · exact ⟨_, lv.keep b o2 m (old b o e).1 z⟩
  · refine (I.hok b u e).stay (fun c v hc q => ?_) (fun _ q => q) fun _ _ q => q
    have hc' : H c ≠ none := by
      rcases hc with rfl | hc
      · rw [e]; intro z; cases z
      · rw [hc]; intro z; cases z
    exact lv.keep c v (fun m => hc' (I.stkFree c m)) (fun m => hc' (hS c m).1) q
theorem passR : Passes (CXR P w) (cxOf (CXR P w) P w K mg base N qual scope f cd A outer s0 H0 E) E := by
  intro pins σ H s e s' I ⟨a, T, C, H', he, os, bare, un, hok, tr, na, nT, ha, hT, hE⟩
  subst he
  have I' := I.call' (ch := []) os un hok bare (fun b z => nomatch z)
  have dead : ∀ b, s.heap.get? b = none → s0.heap.get? b = none := fun b z => by
    cases q : s0.heap.get? b with
    | none => rfl
    | some o =>
      obtain ⟨o2, z2⟩ := I.base.there b o q (by intro y; cases y)
      rw [z] at z2
      cases z2
  show wpAny _ _ (leaving _ (.ref a)) _ _ s'
  refine leave_next (base := base) I'.ok.frames I'.stack rfl tr fun h2 T2 tr2 hT2 lv => ?_
  have d' : s'.heap.get? T2 = none → s0.heap.get? T2 = none := fun z => by
    cases q : s0.heap.get? T2 with
    | none => rfl
    | some o =>
      obtain ⟨o2, z2⟩ := I'.base.there T2 o q (by intro y; cases y)
      rw [z] at z2
      cases z2
  refine cx_left I' lv (fun b hb => ?_) tr2 ha ?_ (dead a na) ?_ hE
  · have : b = a ∨ b = T := by simpa using hb
    rcases this with rfl | rfl
    · exact ⟨ha, dead _ na⟩
    · exact ⟨hT, dead _ nT⟩
  · rcases hT2 with rfl | z
    · exact hT
    · exact I'.hok.dead z
  · rcases hT2 with rfl | z
    · exact dead _ nT
    · exact d' z
def RaiseOk (X : Cx) (E : XK) : Prop := ∀ (pins : List (Addr × Obj)) (σ : St) (H : Hp) (s : Shared) (h1 : Heap) (a C : Addr) (args : List Value), Inv X pins σ H s → Heap.MadeExcOf s.heap h1 a (.ref C) args → E (.ref C) none H → X.xe (.ref a) { s with heap := h1 }
theorem raiseR : RaiseOk (cxOf (CXR P w) P w K mg base N qual scope f cd A outer s0 H0 E) E := by
  intro pins σ H s h1 a C args I m hE
  obtain ⟨t, e1, e2, e3⟩ := m.there
  have I' : Inv (cxOf (CXR P w) P w K mg base N qual scope f cd A outer s0 H0 E) pins σ H { s with heap := h1 } := I.kept (t' := s.toks) fun b u e => m.keeps b u e
  have dead : s0.heap.get? a = none := by
    cases q : s0.heap.get? a with
    | none => rfl
    | some o =>
      obtain ⟨o2, z2⟩ := I.base.there a o q (by intro y; cases y)
      rw [m.new] at z2
      cases z2
  have ha : H a = none := I.hok.dead m.new
  show wpAny _ _ (leaving _ (.ref a)) _ _ { s with heap := h1 }
  refine leave_first (base := base) I'.ok.frames I'.stack rfl e1 rfl rfl rfl rfl fun h2 T2 tr2 hT2 lv => ?_
  refine cx_left I' lv (fun b hb => ?_) tr2 ha (I'.hok.dead hT2) dead ?_ hE
  · have : b = a := by simpa using hb
    subst this
    exact ⟨ha, dead⟩
  · cases q : s0.heap.get? T2 with
    | none => rfl
    | some o =>
      obtain ⟨o2, z2⟩ := I'.base.there T2 o q (by intro y; cases y)
      rw [hT2] at z2
      cases z2
end
section
variable {K : PySem.W.Frag} {h : Heap} {C : Addr} {bmB : List Value} {newId : String}
def ExcCls (h : Heap) (C : Addr) (bmB : List Value) (newId : String) : Prop := ∃ (bm : List Value) (N : Addr) (nm q : Str) (bs : List Value) (hd : Bool) (sn : List Str) (sub : List Value) (ab : Bool) (col : Option Bool) (dd : Option Addr) (k0 k1 k2 k3 k5 : Option Value) (mN : Str → Option Value),
  h.get? C = some (excClassObj nm q C N bs bm hd sn sub ab col dd k0 k1 k2 k3 k5 newId) ∧ h.Ns N mN ∧ mN "__init__" = none ∧ OwnTail h bmB bm
theorem exc_of (X : K.In h) (q : excIn K C bmB newId = true) : ExcCls h C bmB newId := by
  unfold excIn at q
  split at q
  · rename_i dd cd sl ho
    split at q
    · rename_i C' bm k0 k1 k2 k3 n k5 hm hs
      simp only [Bool.and_eq_true, beq_iff_eq, Bool.not_eq_true'] at q
      obtain ⟨⟨⟨⟨⟨rfl, rfl⟩, hdel⟩, ht⟩, hok⟩, hni⟩ := q
      obtain ⟨nm, bs, mro, ns, qn, hd, sn, sub, ab, col, del⟩ := cd
      dsimp only at hm hdel hok hni
      subst hm hdel
      obtain ⟨l⟩ := sl
      dsimp only at hs
      subst hs
      exact ⟨bm, ns, nm, qn, bs, hd, sn, sub, ab, col, dd, k0, k1, k2, k3, k5, _, X _ _ ho, .of_isNs (isNs_of_in X hok), nsMap_none_of_in X hok hni, tail_of_in X ht⟩
    · cases q
  · cases q
end
abbrev veB : List Value := [.type "ValueError", .type "Exception", .type "BaseException", .type "object"]
def ExcK (K : PySem.W.Frag) (C : Addr) : Prop := excIn K C veB "ValueError.__new__" = true
def tRaise (C : Addr) (E : XK) (ta : TA) : TS := fun _ σ H => ta σ H fun vs H1 => vs.length ≤ sizeLine ∧ E (.ref C) none H1
theorem ps_raise {X : Cx} {E : XK} {C : Addr} {x : Str} {np cpos pos : Pos} {e : Expr} {ta : TA} (hX : RaiseOk X E) (hc : X.calm = true) (ha : PA X [e] ta) (hg : Gl X x) (hm : X.mg x = some (.ref C)) (hq : ExcK X.K C)
    (hs : starEach [e] X.env = (false, eval e X.env) :: starEach [] X.env := by rfl) (hplain : (backTo cpos (starEach [e] X.env)).any (·.1) = false := by rfl) (hdb : (x == ("__debug__" : Str)) = false := by decide) :
    PS X (.Raise (some (.Call (.Name x np) [e] [] cpos)) none pos) (tRaise C E ta) := by
  intro pins s σ H D I h
  obtain ⟨bm, N, nm, q, bs, hd, sn, sub, ab, col, dd, k0, k1, k2, k3, k5, mN, hC, hN, hni, T⟩ := exc_of I.mod.kin hq
  refine wpAny_Raise_call_subT (C := C) (nm := nm) (q := q) (N := N) (bs := bs) (bm := bm) (hdct := hd) (sn := sn) (sub := sub) (ab := ab) (col := col) (dd := dd) (k0 := k0) (k1 := k1) (k2 := k2) (k3 := k3) (k5 := k5) (mN := mN) PySem.F.excBase_ValueError (T.hasType (by decide)) (I.ok.hd hc) hplain hni (ld_glob I hg hm ⟨rfl, ?_⟩ hdb)
  have hA := ha cpos pins s σ H _ I h
  rw [hs] at hA ⊢
  refine Calls.evalArgs_plain (thn hA fun us s1 ⟨vs, H1, I1, r1, hul, q1⟩ => ?_)
  rw [r1.length] at hul
  exact ⟨rfl, hul, I1.bk _ _ hC, hN.at' fun o e => I1.bk _ _ e, T.keeps I1.bk, fun h2 a m => hX pins σ H1 s1 h2 a C us I1 m q1⟩
section
variable {X : Cx} {pins : List (Addr × Obj)} {σ : St} {H : Hp} {s : Shared}
theorem Inv.lv {S : List Addr} {h' : Heap} {t' : Nat} (I : Inv X pins σ H s) (lv : Lv X.stack S s.heap h') (hS : ∀ b ∈ S, H b = none ∧ X.s₀.heap.get? b = none ∧ b ≠ X.env.locals ∧ (∀ x c, X.env.cells.lookup x = some c → c ≠ b) ∧ ∀ p ∈ X.pn ++ pins, p.1 ≠ b) : Inv X pins σ H { s with heap := h', toks := t' } := by
  have old : ∀ b o, X.s₀.heap.get? b = some o → b ∉ S ∧ b ≠ X.env.locals := fun b o e => ⟨fun z => (by rw [(hS b z).2.1] at e; cases e), Nat.ne_of_lt (Nat.lt_of_lt_of_le (Heap.lt_size e) I.ok.above)⟩
  have one : ∀ b o, b ∉ S → s.heap.get? b = some o → ∃ sl, h'.get? b = some { o with slots := sl } := fun b o n e => by
    by_cases m : b ∈ frs X.stack
    · exact lv.slot b o m e
    · exact ⟨o.slots, lv.keep b o m n e⟩
  have nL : X.env.locals ∉ S := fun z => (hS _ z).2.2.1 rfl
  have cellK : ∀ x c, X.env.cells.lookup x = some c → ∀ v, s.heap.IsCell c v → h'.IsCell c v := fun x c e v ⟨o, ho, hd⟩ => by
    obtain ⟨sl, q⟩ := one c o (fun z => (hS c z).2.2.2.1 x c e rfl) ho
    exact ⟨_, q, hd⟩
  have nst : ∀ b, b ∉ X.fs → b ≠ X.env.locals → b ∉ frs X.stack := fun b n1 n2 m => by
    rcases List.mem_cons.mp (I.stkSub b m) with z | z
    · exact n2 z
    · exact n1 z
  refine ⟨I.ok, I.os, I.bare, ⟨fun b o e n hb hx => ?_, fun b o e n hb hx => ?_, fun b o e n hx => I.base.free b o e n hx, fun b o e hx => ?_, I.base.tups, I.base.frzs, I.base.tbls⟩, ?_, fun x c e => ?_, I.free, I.freeC, fun p hp => ?_, fun b u e => ?_, I.len⟩
  · exact lv.keep b o (nst b hb (old b o e).2) (old b o e).1 (I.base.keep b o e n hb hx)
  · obtain ⟨sl, z⟩ := I.base.slot b o e n hb hx
    obtain ⟨sl2, z2⟩ := one b _ (old b o e).1 z
    exact ⟨sl2, z2⟩
  · obtain ⟨o2, z⟩ := I.base.there b o e hx
    obtain ⟨sl2, z2⟩ := one b _ (old b o e).1 z
    exact ⟨_, z2⟩
  · obtain ⟨m, ⟨o, es, ep, ho, r⟩, hl⟩ := I.loc
    obtain ⟨sl, z⟩ := one _ o nL ho
    refine ⟨m, ⟨_, es, ep, z, r⟩, fun i x v e1 e2 e3 => ?_⟩
    obtain ⟨u, ru, l⟩ := hl i x v e1 e2 e3
    refine ⟨u, ru, ?_⟩
    rcases l with l | ⟨k, c, e, z⟩
    · exact .inl l
    · exact .inr ⟨k, c, e, cellK x c e _ z⟩
  · obtain ⟨v, z⟩ := I.cell x c e
    exact ⟨v, cellK x c e v z⟩
  · obtain ⟨e, n, ne, nf, d⟩ := I.pin p hp
    exact ⟨lv.keep p.1 p.2 (nst p.1 nf ne) (fun z => (hS p.1 z).2.2.2.2 p hp rfl) e, n, ne, nf, d⟩
  · refine (I.hok b u e).stay (fun c v hc q => ?_) (fun _ q => q) fun _ _ q => q
    have hc' : H c ≠ none := by
      rcases hc with rfl | hc
      · rw [e]; intro z; cases z
      · rw [hc]; intro z; cases z
    exact lv.keep c v (fun m => hc' (I.stkFree c m)) (fun m => hc' (hS c m).1) q
def isE (a C : Addr) : Heap → Prop := fun h => ∃ o vs, h.get? a = some o ∧ o.cls = .ref C ∧ o.dict = none ∧ o.data = .fields vs ∧ vs[2]? = some .none
theorem Inv.trackE {a : Addr} {φ : Heap → Prop} (I : Inv X pins σ H s) (ha : H a = none) (hs : X.s₀.heap.get? a = none) (hL : a ≠ X.env.locals) (hc : ∀ x c, X.env.cells.lookup x = some c → c ≠ a) (hp : ∀ p ∈ X.pn ++ pins, p.1 ≠ a)
    (new : φ s.heap ∧ (∃ o, s.heap.get? a = some o) ∧ ∀ h1 h2 : Heap, φ h1 → (∀ o, h1.get? a = some o → h2.get? a = some o) → φ h2) : Inv X pins σ (upd H a (.ext φ)) s := by
  have kp : ∀ b u, H b = some u → upd H a (.ext φ) b = some u := fun b u e => by rw [upd_ne (fun z => by rw [z, ha] at e; cases e)]; exact e
  have fr : ∀ b, b ≠ a → H b = none → upd H a (.ext φ) b = none := fun b n e => by rw [upd_ne n]; exact e
  refine ⟨I.ok, I.os, I.bare, ⟨I.base.keep, I.base.slot, fun b o e n hx => fr b (fun z => by rw [z, hs] at e; cases e) (I.base.free b o e n hx), I.base.there, fun b xs e => kp _ _ (I.base.tups b xs e), fun b o u e => kp _ _ (I.base.frzs b o u e), fun b ps e => ?_⟩, I.loc, I.cell, fr _ (Ne.symm hL) I.free, fun x c e => fr _ (hc x c e) (I.freeC x c e), fun p hp' => ?_, fun b u e => ?_, I.len⟩
  · obtain ⟨m, z⟩ := I.base.tbls b ps e
    exact ⟨m, kp _ _ z⟩
  · obtain ⟨e1, e2, e3⟩ := I.pin p hp'
    exact ⟨e1, fr _ (hp p hp') e2, e3⟩
  · by_cases z : b = a
    · subst z
      rw [upd_same] at e
      cases e
      exact new
    · rw [upd_ne z] at e
      exact (I.hok b u e).stay (fun _ _ _ q => q) (fun c q => kp _ _ q) fun c xs q => kp _ _ q
abbrev Cx.tryC (X : Cx) (f : Value → Shared → Prop) (pn : List (Addr × Obj)) : Cx := { X with xe := f, pn := pn }
abbrev Cx.hand (X : Cx) (a : Addr) : Cx := { X with A := X.A.mark (some (.ref a)), calm := false, xe := fun _ _ => False }
theorem Inv.toTry {f : Value → Shared → Prop} (I : Inv X pins σ H s) : Inv (X.tryC f (X.pn ++ pins)) [] σ H s :=
  ⟨⟨I.ok.mod, I.ok.kind, I.ok.glob, I.ok.blt, I.ok.above, I.ok.inj, I.ok.has, I.ok.cab, I.ok.hd, I.ok.frames, I.ok.stk, I.ok.exf, I.ok.bs, I.ok.bsz, I.ok.noex, I.ok.exfs, I.ok.funs, I.ok.frf⟩, I.os, I.bare, I.base, I.loc, I.cell, I.free, I.freeC, fun p hp => I.pin p (by simpa using hp), I.hok, I.len⟩
theorem Inv.ofTry {f : Value → Shared → Prop} {pins' : List (Addr × Obj)} (I : Inv (X.tryC f (X.pn ++ pins)) pins' σ H s) : Inv X pins σ H s :=
  ⟨⟨I.ok.mod, I.ok.kind, I.ok.glob, I.ok.blt, I.ok.above, I.ok.inj, I.ok.has, I.ok.cab, I.ok.hd, I.ok.frames, I.ok.stk, I.ok.exf, I.ok.bs, I.ok.bsz, I.ok.noex, I.ok.exfs, I.ok.funs, I.ok.frf⟩, I.os, I.bare, I.base, I.loc, I.cell, I.free, I.freeC, fun p hp => I.pin p (List.mem_append_left _ hp), I.hok, I.len⟩
theorem Inv.toHand {a : Addr} (I : Inv X pins σ H s) : Inv (X.hand a) pins σ H s :=
  ⟨⟨I.ok.mod, I.ok.kind, I.ok.glob, I.ok.blt, I.ok.above, I.ok.inj, I.ok.has, I.ok.cab, (fun z => nomatch z), I.ok.frames, I.ok.stk, I.ok.exf, I.ok.bs, I.ok.bsz, I.ok.noex, I.ok.exfs, I.ok.funs, I.ok.frf⟩, I.os, I.bare, I.base, I.loc, I.cell, I.free, I.freeC, I.pin, I.hok, I.len⟩
theorem Inv.ofHand {a : Addr} (I : Inv (X.hand a) pins σ H s) (ok : X.Ok) : Inv X pins σ H s :=
  ⟨ok, I.os, I.bare, I.base, I.loc, I.cell, I.free, I.freeC, I.pin, I.hok, I.len⟩
theorem Inv.blank (I : Inv X pins σ H s) : Inv X pins (List.replicate X.N.length none) H s := I.weak (by rw [List.length_replicate, I.len]) fun i v e => by
  rw [List.getElem?_replicate] at e
  split at e <;> cases e
theorem Inv.renamed {h' : Heap} {m : Str → Option Value} {t' : Nat} (I : Inv X pins σ H s) (ns : h'.Ns X.env.locals m) (sb : Heap.SameBut X.env.locals s.heap h') : Inv X pins (List.replicate X.N.length none) H { s with heap := h', toks := t' } := by
  have old : ∀ b o, X.s₀.heap.get? b = some o → b ≠ X.env.locals := fun b o e => Nat.ne_of_lt (Nat.lt_of_lt_of_le (Heap.lt_size e) I.ok.above)
  refine ⟨I.ok, I.os, I.bare, ⟨fun b o e n hb hx => (sb.2 b (old b o e)).trans (I.base.keep b o e n hb hx), fun b o e n hb hx => ?_, fun b o e n hx => I.base.free b o e n hx, fun b o e hx => ?_, I.base.tups, I.base.frzs, I.base.tbls⟩, ⟨m, ns, fun i x v _ e2 _ => ?_⟩, fun x c e => ?_, I.free, I.freeC, fun p hp => ?_, fun b u e => ?_, by rw [List.length_replicate]⟩
  · obtain ⟨sl, z⟩ := I.base.slot b o e n hb hx
    exact ⟨sl, (sb.2 b (old b o e)).trans z⟩
  · obtain ⟨o2, z⟩ := I.base.there b o e hx
    exact ⟨o2, (sb.2 b (old b o e)).trans z⟩
  · rw [List.getElem?_replicate] at e2
    split at e2 <;> cases e2
  · obtain ⟨v, o, ho, hd⟩ := I.cell x c e
    exact ⟨v, o, (sb.2 c (I.cne x c e)).trans ho, hd⟩
  · obtain ⟨e, n, ne, nf, d⟩ := I.pin p hp
    exact ⟨(sb.2 p.1 ne).trans e, n, ne, nf, d⟩
  · refine (I.hok b u e).stay (fun c v hc q => (sb.2 c fun z => ?_).trans q) (fun _ q => q) fun _ _ q => q
    have hc' : H c ≠ none := by
      rcases hc with rfl | hc
      · rw [e]; intro z; cases z
      · rw [hc]; intro z; cases z
    exact hc' (z ▸ I.free)
end
section
variable {M : Model} {A : Around} {E : Value → Shared → Prop}
end
def HitE (K : PySem.W.Frag) (C D : Addr) : Prop := ExcK K C ∧ PySem.W.mroIn K C (.ref D) = some true
def tTry (n i : Nat) (tb : XK → TS) (ok : Addr → Prop) (ts : TS) : TS := fun D σ H =>
  tb (fun c _ H' => ∃ C, c = .ref C ∧ ok C ∧ ∀ a, H' a = none → ts { nx := fun _ H => D.nx (List.replicate n none) H, rt := D.rt, bk := fun _ H => D.bk (List.replicate n none) H, ct := fun _ H => D.ct (List.replicate n none) H } ((List.replicate n none).set i (some (.ref a))) (upd H' a (.ext (isE a C)))) D σ H
theorem mro_of {K : PySem.W.Frag} {h : Heap} {C D N : Addr} {nm q : Str} {bs bm sub : List Value} {hdct ab : Bool} {sn : List Str} {col : Option Bool} {dd : Option Addr} {k0 k1 k2 k3 k5 : Option Value} {newId : String} (X : K.In h) (hC : h.get? C = some (excClassObj nm q C N bs bm hdct sn sub ab col dd k0 k1 k2 k3 k5 newId)) (hm : PySem.W.mroIn K C (.ref D) = some true) : (Value.ref C :: bm).contains (.ref D) = true := by
  unfold PySem.W.mroIn PySem.W.clsIn at hm
  split at hm
  · rename_i c' d' cd sl ho
    have z := X _ _ ho
    rw [hC] at z
    cases z
    simpa using hm
  · cases hm
structure TyE (K : PySem.W.Frag) (C : Addr) : Prop where
  ga : PySem.W.findIn K (.ref C) "__getattribute__" = some (some (.builtin "BaseException.__getattribute__"))
  gn : PySem.W.findIn K (.ref C) "__getattr__" = some none
  mb : PySem.W.mroIn K C (.type "BaseException") = some true
  hd : PySem.W.hasDictIn K C = true
  ty : TyCls K C
theorem kin_classE {prog : Program} {w : World} {A : Around} {E : Value → Shared → Prop} {s : Shared} {K : PySem.W.Frag} {x D : Addr} {ox : Obj} {Q : Option Value → Shared → Prop} (t : TyE K D) (X : K.In s.heap) (I : InstAt s.heap x ox D none) (h : Q (some (.ref D)) { s with toks := s.toks + 1 }) : wpAny (model prog w) A (getAttr? (.ref x) "__class__") Q E s := by
  have hf : findObj K D none "__class__" = some (.bind (.builtin "getset_descriptor.__get__") (.builtin "object.__class__")) := by
    obtain ⟨cd, hc, _⟩ := any_some t.hd
    unfold findObj
    rw [hc, t.ty.ha]
    simp only [Option.bind_some, t.ty.hn, t.ty.ht]
  obtain ⟨hh, g, d, tk, os⟩ := s
  have L0 := I.type (M := model prog w)
  have L1 := looks_findIn (M := model prog w) X t.ga
  have L2 := looks_findIn (M := model prog w) X t.gn
  have L3 := looks_find (M := model prog w) X I hf
  have L4 := looks_mroIn (M := model prog w) X t.mb
  have hk : builtinKind "BaseException.__getattribute__" = some .slot := by decide +kernel
  have hsplit : splitId "BaseException.__getattribute__" = some ("BaseException", "__getattribute__") := by decide +kernel
  unfold getAttr? getAttrBy? getAttrBy
  refine wpAny_bind (wpAny_mkText (wpAny_bind (wpAny_attempt (wpAny_holding (wpAny_bind (L0.at (wpAny_bind (L1.at ?_))))))))
  dsimp only
  rw [if_neg (show ¬ ((onTheHeap (Value.ref D) && Value.builtin "BaseException.__getattribute__" == Value.builtin "object.__getattribute__") = true) by rw [show (Value.builtin "BaseException.__getattribute__" == Value.builtin "object.__getattribute__") = false from by decide +kernel, Bool.and_false]; decide)]
  unfold getAttrByItsOwn
  refine wpAny_bind (show wpAny _ _ (typeLookup (.ref D) "__getattr__") _ _ _ from L2.at ?_)
  refine wpAny_bind (wpAny_attempt (wpAny_holding ?_))
  show wpAny _ _ (boundAndCalled _ _ _) _ _ _
  unfold boundAndCalled
  rw [PySem.F.attr_ValueError.ga.bind]
  refine wpAny_bind (wpAny_pure ?_)
  refine wpAny_call (codeAny_call_builtin PySem.F.attr_ValueError.ga.plain PySem.F.entry_bexc_ga ?_)
  simp only [checkBuiltinCall, hk, hsplit]
  have ha := PySem.F.args_bexc_ga (.ref x) (.str "__class__" tk)
  dsimp only at L0 L1 L2 L3 L4 X I h
  refine wpAny_bind ?_
  unfold isInstance
  refine wpAny_bind (L0.at (L4.at ?_))
  rw [if_neg (by decide)]
  repeat (any_goals (first | assumption | with_reducible refine L0.at ?_ | with_reducible refine L3.at ?_ | wp_step))
  exact class_get (s := ⟨hh, g, d, tk + 1, os⟩) (ox := ox) (od := none) X I t.ty.hm (wpAny_pure (handed_on rfl (wpAny_pure h)))
theorem kitx_exc {K : PySem.W.Frag} {x D : Addr} {ox : Obj} (t : TyE K D) : KitX K (.ref x) (.ref D) (fun h => InstAt h x ox D none) where
  ty := fun _ _ _ I => I.type
  it := fun _ _ X _ => by
    obtain ⟨cdD, hcD, _⟩ := any_some t.hd
    unfold clsIn at hcD
    split at hcD
    · rename_i c' d' cd' sl' ho
      intro A' Q' E' s' k q
      unfold isType loadHead
      exact wpAny_bind (wpAny_loadPart (k _ _ (X _ _ ho)) (wpAny_pure q))
    · cases hcD
  ne := fun h tp dd its n sl X htp => by
    obtain ⟨cdD, hcD, _⟩ := any_some t.hd
    refine Bool.eq_false_iff.mpr fun q => ?_
    have e : D = tp := Value.ref.inj (beq_iff_eq.mp q)
    subst e
    unfold clsIn at hcD
    split at hcD
    · rename_i c' d' cd' sl' ho
      have z := (X _ _ ho).symm.trans htp
      cases z
    · cases hcD
  ca := fun X I k => kin_classE t X I k
section
variable {X : Cx}
def rIsiE (K : PySem.W.Frag) : List V → Hp → VK → Prop := fun xs H Q => ∃ a c cv C b, xs = [.ref a, c] ∧ ClsV c cv ∧ H a = some (.ext (isE a C)) ∧ TyE K C ∧ PySem.W.kitOne K (.ref C) cv = some b ∧ Q (.bl b) H
theorem call_isiE : CallR X (.builtin "isinstance") (rIsiE X.K) := by
  intro pins s σ H xs us Q I r h
  obtain ⟨a, c, cv, C, b, rfl, hc, hH, ty, e, q⟩ := h
  obtain ⟨u, w', rfl, r1, r2⟩ := vals2 r
  have ew : w' = cv := by cases hc <;> exact r2
  subst ew
  cases r1
  obtain ⟨⟨o, vs, z1, z2, z3, z4, _⟩, _⟩ := (show ObjOk X.prog X.w H s.heap a (.ext (isE a C)) from I.hok a _ hH)
  have J : InstAt s.heap a o C none := ⟨z1, z2, by unfold notCls; rw [z4], by rw [z3]; trivial⟩
  exact PySem.W.kia_one (kitx_exc ty) I.kIn J e (fun z => nomatch z) fun tk => ⟨.bl b, H, I.tok tk, rfl, q⟩
end
section
variable {P : Program} {w : World} {K : PySem.W.Frag} {mg : Str → Option Value} {base : Heap}
theorem FunD.okR {x qual : Str} {st : Stmt} {f : Addr} {dV : Value} {fd : FuncData} {N ps : List Str} {k : Nat} {sp : Sp} (F : FunD K x qual st f dV fd) (S : FnScope N ps (defScope st)) (len : ∀ vs H Q E, sp vs H Q E → vs.length = ps.length)
    (hbody : ∀ (cdv : Value) (A : Around) (outer : List Env) (s : Shared) (H : Hp) (vs : List V) (Q : VK) (E : XK), Room k (A.deeper (envOfC qual (defScope st) s.heap.objs.size f cdv)) → sp vs H Q E →
      ∃ t, PSs (cxOf (CXR P w) P w K mg base N qual (defScope st) f cdv A outer s H E) (defBody st) t ∧ t { nx := fun _ H' => Q .non H', rt := Q } (start N vs) H) : FnOk P w K mg base (CXR P w) (k + 1) f fd ps sp := by
  obtain ⟨oc, od, kV, doc, pm, an, cdv, ct, osl, rfl, lk, hcd⟩ := F.ex
  exact fn_of lk hcd S len fun A outer s H vs Q E hr hsp => hbody cdv A outer s H vs Q E hr hsp
structure CalR (P : Program) (w : World) (K : PySem.W.Frag) (mg : Str → Option Value) (base : Heap) (k : Nat) (f : Addr) (ps : List Str) (dvs : List V) (sp : Sp) : Prop where
  ex : ∃ (fd : FuncData) (ds : List Value), FnOk P w K mg base (CXR P w) k f fd ps sp ∧ Binds K fd ps ds ∧ Vals dvs ds
end
section
variable {X : Cx} {k : Nat} {f : Addr} {ps : List Str} {sp : Sp} {dvs : List V} {E : XK} {x : Str} {p pos : Pos} {e : Expr} {es : List Expr} {t : TA}
theorem pr_call (c : CalR X.prog X.w X.K X.mg X.base k f ps dvs sp) (hr : Room k X.A) (hg : Gl X x) (hm : X.mg x = some (.ref f)) (hk : PySem.W.keepIn X.K (.ref f) = true) (hx : Passes (CXR X.prog X.w) X E)
    (ha : PA X (e :: es) t) (hdb : (x == ("__debug__" : Str)) = false := by decide) (he : starEach (e :: es) X.env = (false, eval e X.env) :: starEach es X.env := by rfl) (hpl : (backTo pos (starEach es X.env)).any (·.1) = false := by rfl) :
    PE X (.Call (.Name x p) (e :: es) [] pos) (tCallN sp dvs E t) := by
  obtain ⟨fd, ds, F, hb, hd⟩ := c.ex
  rw [tCallN_eq]
  exact pe_call F hr hg hm hk hb hd hx ha hdb he hpl
end
section
variable {σ : St} {H : Hp} {Q : VK} {D : Ends} {K : PySem.W.Frag} {E : XK} {C : Addr} {ta : TA}
theorem r_raise (h : ta σ H fun vs H1 => vs.length ≤ sizeLine ∧ E (.ref C) none H1) : tRaise C E ta D σ H := h
theorem r_raised {x : V} (h : E (.ref C) none H) : [x].length ≤ sizeLine ∧ E (.ref C) none H := ⟨by rw [sizeLine_eq]; simp, h⟩
theorem r_isiE {a C' : Addr} {b : Bool} (hH : H a = some (.ext (isE a C))) (ty : TyE K C) (e : PySem.W.kitOne K (.ref C) (.ref C') = some b) (h : Q (.bl b) H) : rIsiE K [.ref a, .ref C'] H Q := ⟨a, _, _, C, b, rfl, .ref _, hH, ty, e, h⟩
theorem r_isiT {a : Addr} {n : String} {b : Bool} (hH : H a = some (.ext (isE a C))) (ty : TyE K C) (e : PySem.W.kitOne K (.ref C) (.type n) = some b) (h : Q (.bl b) H) : rIsiE K [.ref a, .ty n] H Q := ⟨a, _, _, C, b, rfl, .ty _, hH, ty, e, h⟩
end
end L2

namespace L2
open PySem PySem.Spec PyProof.Rows PySem.W
def sliceS (z : Str) (lo hi : Option Int) : Str := ⟨((Builtin.Str.strSliceIndices lo hi 1 z.length).filterMap (z.cps[·]?)).toArray⟩
def rSlX : V → Option Int → Option Int → Hp → VK → Prop := fun x lo hi H Q => ∃ z : Str, x = .str z ∧ z.length ≤ 4000 ∧ Q (.str (sliceS z lo hi)) H
section
variable {X : Cx}
def rStarts : V → List V → Hp → VK → Prop := fun x vs H Q => ∃ z y : Str, x = .str z ∧ vs = [.str y] ∧ Q (.bl (Txt.startswith z y)) H
def rIntS : List V → Hp → VK → Prop := fun xs H Q => ∃ (x : Str) (n : Int), xs = [.str x] ∧ PySem.intText? x = some n ∧ x.length ≤ 640 ∧ Q (.int n) H
def rMulL : R2 := fun x y H Q => ∃ (z : Str) (n : Int), x = .str z ∧ y = .int n ∧ z.length = 1 ∧ 0 ≤ n ∧ n ≤ 1000 ∧ ∀ t : Str, t.length = n.toNat → (∀ c ∈ t.cps.toList, c ∈ z.cps.toList) → Q (.str t) H
end
theorem passN {X : Cx} : Passes (CXR X.prog X.w) X (fun _ _ _ => False) := fun _ _ _ _ _ _ _ ⟨_, _, _, _, _, _, _, _, _, _, _, _, _, _, z⟩ => z.elim
theorem call_isiEK {X : Cx} {K : PySem.W.Frag} (h : X.K = K) : CallR X (.builtin "isinstance") (rIsiE K) := h ▸ call_isiE
theorem kit_not {K : PySem.W.Frag} {C D : Addr} (h2 : PySem.W.mroIn K D (.type "object") = some true) (h3 : PySem.W.typeIn K (.ref D) = some (.type "type")) (h : PySem.W.mroIn K C (.ref D) = some false) (hb : (C == D) = false) : PySem.W.kitOne K (.ref C) (.ref D) = some false :=
  kit_own h2 h3 h fun e => by rw [e] at hb; simp at hb
theorem boot_ValueError : bootBuiltins "ValueError" = some (.type "ValueError") := by decide +kernel
theorem kit_ve {K : PySem.W.Frag} {C : Addr} (h : PySem.W.mroIn K C (.type "ValueError") = some true) : PySem.W.kitOne K (.ref C) (.type "ValueError") = some true := by
  unfold PySem.W.kitOne
  rw [if_neg (by simp)]
  show (if PySem.W.kitMeta "ValueError" = true then PySem.W.subIn K (.ref C) (.type "ValueError") else none) = some true
  rw [if_pos (by decide +kernel)]
  exact h
section
variable {σ : St} {H : Hp} {Q : VK} {D : Ends} {K : PySem.W.Frag}
end
end L2

namespace L2
open PySem PySem.Spec PyProof.Rows PySem.W
section
variable {X : Cx} {k : Nat} {f C : Addr} {ps : List Str} {sp : Sp} {dvs : List V} {E : XK} {x m : Str} {p pos apos : Pos} {e : Expr} {es : List Expr} {t : TA}
theorem pr_make (M : Mk X.K C f) (F : CalR X.prog X.w X.K X.mg X.base k f ps dvs sp) (hr : Room (k + 1) X.A) (hg : Gl X x) (hm : X.mg x = some (.ref C)) (hx : Passes (CXR X.prog X.w) X E)
    (ha : PA X (e :: es) t) (hdb : (x == ("__debug__" : Str)) = false := by decide) (he : starEach (e :: es) X.env = (false, eval e X.env) :: starEach es X.env := by rfl) (hpl : (backTo pos (starEach es X.env)).any (·.1) = false := by rfl) :
    PE X (.Call (.Name x p) (e :: es) [] pos) (tMakeN C sp dvs E t) := by
  obtain ⟨fd, ds, F, hb, hd⟩ := F.ex
  rw [tMakeN_eq]
  exact pe_make M F hr hg hm hb hd hx ha hdb he hpl
theorem pr_base {pl : Sem Bool} (hg : Gl X x) (hm : X.mg x = some (.ref C)) (B : BaseM X.K C m f) (F : CalR X.prog X.w X.K X.mg X.base k f ps dvs sp) (hr : Room k X.A) (hx : Passes (CXR X.prog X.w) X E) (ha : PA X (e :: es) t)
    (hdb : (x == ("__debug__" : Str)) = false := by decide)
    (hst : starEach (e :: es) X.env = (false, eval e X.env) :: starEach es X.env := by rfl) (hpl : (backTo pos (starEach es X.env)).any (·.1) = false := by rfl)
    (ht : eval (.Call (.Attribute (.Name x p) m apos) (e :: es) [] pos) X.env = (do
      let ov ← eval (.Name x p) X.env
      standAt apos.atName
      let (f, first) ← holding [ov] (getMethod ov m pl)
      callWith pos f first (backTo pos (starEach (e :: es) X.env)) (backToKw pos (keywordEach [] X.env))) := by rfl) :
    PE X (.Call (.Attribute (.Name x p) m apos) (e :: es) [] pos) (tCallN sp dvs E t) := by
  obtain ⟨fd, ds, F, hb, hd⟩ := F.ex
  rw [tCallN_eq]
  exact pe_base hg hm B F hr hb hd hx ha hdb hst hpl ht
end
theorem entry_unchain : entryFor table "proto.unchain" = some Builtin.«proto.unchain» := entryFor_of_fast (by kernel_rfl)
section
variable {prog : Program} {w : World} {A : Around} {E : Value → Shared → Prop} {s : Shared}
theorem pyNext_list_endH {it l a : Addr} {i : Nat} {items} {oe : Obj} {vs : Array Value} {Q : Option Value → Shared → Prop} (hh : A.handled = some (.ref a)) (he : s.heap.get? a = some oe) (hde : oe.data = .fields vs) (h2 : vs[2]? = some .none) (hia : a ≠ it)
    (hit : s.heap.IsListIter it l i) (hl : s.heap.IsList l items) (hx : items[i]? = none)
    (hQ : ∀ h', Heap.ExtBut it s.heap h' → Q none { s with heap := h' }) : wpAny (model prog w) A (pyNext (.ref it)) Q E s := by
  obtain ⟨o, ho, hc, hd⟩ := id hit
  obtain ⟨ol, hol, _, nl, hdl⟩ := hl
  unfold pyNext
  refine wpAny_bind (wpAny_attempt (wpAny_callSpecial?_slot (name := Str.ofString "__next__") hit.typeIs slot_listiter_next
    (wpAny_call_entry slot_listiter_next hit.typeIs entry_listiter_next ?_ (args_listiter_next _))))
  show wpAny _ _ (field (.ref it) 0 >>= _) _ _ s
  refine wpAny_bind (wpAny_field ho hd (x := .ref l) rfl ?_)
  show wpAny _ _ (if (Value.ref l == Value.none) = true then _ else _) _ _ s
  rw [if_neg (show ¬ ((Value.ref l == Value.none) = true) from Bool.false_ne_true)]
  show wpAny _ _ (field (.ref it) 1 >>= _) _ _ s
  refine wpAny_bind (wpAny_field ho hd (x := .int i 0) rfl ?_)
  show wpAny _ _ (seqItems? (.ref l) >>= _) _ _ s
  refine wpAny_bind (wpAny_seqItems hol hdl ?_)
  simp only [Int.toNat_natCast, hx]
  refine wpAny_bind (wpAny_rule (wpAny_bind (wpAny_setField ho hd (by simp) ?_)))
  show wpAny _ _ (newExc (.type "StopIteration") [] >>= _) _ _ _
  refine wpAny_bind ?_
  simp only [newExc, newTuple]
  refine wpAny_bind (wpAny_newObj_type ?_ (by size_fits))
  refine wpAny_bind (m := firstArgMember _ _) (wpAny_of_eq (a := Value.none) (by first | rfl | (simp only [firstArgMember]; rfl)) ?_)
  refine wpAny_newObj_type ?_ (by size_fits)
  simp only [raiseNew]
  refine wpAny_bind (wpAny_handled ?_)
  rw [show A.in1.handled = some (.ref a) from hh]
  generalize hz : s.heap.update it _ = h1
  have sb : Heap.ExtBut it s.heap h1 := by rw [← hz]; exact (Heap.SameBut.update ..).extBut
  generalize ht : h1.push _ = h2'
  have kp2 : ∀ b u, h1.get? b = some u → h2'.get? b = some u := fun b u q => by rw [← ht]; exact Heap.get?_push_of_some _ q
  have e2 : h2'.get? a = some oe := kp2 a _ (sb a oe hia he)
  have hne : (Value.ref a != Value.ref h2'.objs.size) = true := by
    have : a ≠ h2'.objs.size := Nat.ne_of_lt (Heap.lt_size e2)
    simpa using this
  dsimp only
  rw [if_pos hne]
  refine wpAny_bind (wpAny_holding (wpAny_runValue (codeAny_builtin entry_unchain ?_)))
  show wpAny _ _ (field (.ref a) 2 >>= _) _ _ _
  refine wpAny_bind (wpAny_field (Heap.get?_push_of_some _ e2) hde h2 ?_)
  rw [if_pos (by rfl)]
  refine wpAny_pure ?_
  refine wpAny_bind (show wpAny _ _ (setField (.ref h2'.objs.size) 2 (.ref a)) _ _ _ from wpAny_setField (Heap.get?_push_size _ rfl) rfl (by simp only [Array.size_append]; exact Nat.lt_of_lt_of_le (show 2 < 6 by decide) (Nat.le_add_right _ _)) (wpAny_throw ?_))
  refine wpAny_bind (wpAny_isInstance (T := "StopIteration") (b := true) ⟨_, Heap.get?_update_self _ (Heap.get?_push_size _ rfl) (Obj.isFreed_of_fields (Obj.data_mapFields rfl _)), Obj.cls_mapFields _ _⟩ isSubtype_stop ?_)
  refine wpAny_pure (hQ _ fun b u hb q => ?_)
  have q2 := kp2 b u (sb b u hb q)
  rw [Heap.get?_update_other _ _ (Ne.symm (Nat.ne_of_lt (Heap.lt_size q2)))]
  exact Heap.get?_push_of_some _ q2
end
def tForH (a : Addr) (wi : TI) (g : TG) (tb : TS) : TS := fun D σ H => tFor wi g tb { D with nx := fun σ H => D.nx σ H ∧ ∃ C, H a = some (.ext (isE a C)) } σ H
theorem ps_forH {X : Cx} {a : Addr} {tg iter : Expr} {body : List Stmt} {tl : TE} {g : TG} {tb : TS} {pos : Pos} (hl : PE (X.hand a) iter tl) (hg : PG (X.hand a) tg g) (hb : PSs (X.hand a) body tb)
    (hs : ∀ x, foldedSetIterable iter X.env x = pure x := by intro _; rfl) : PS (X.hand a) (.For tg iter body [] pos) (tForH a (iList X.K tl) g tb) := by
  intro pins s σ H D I h
  refine wpAny_For (thn (hl pins s σ H _ I h) fun v s1 ⟨x, H1, I1, r1, q1⟩ => ?_) hs
  obtain ⟨l, e, ⟨xs, hq⟩, W, ⟨m0, w0⟩, turn⟩ := q1
  subst e
  cases r1
  obtain ⟨its, rv, p, hz⟩ := I1.list hq
  refine wpAny_pyIter_list p.isList ?_
  have I2 : Inv (X.hand a) pins σ H1 { s1 with heap := s1.heap.push { cls := .type "list_iterator", dict := none, data := .fields #[.ref l, rawInt 0] } } := I1.kept (t' := s1.toks) fun b o e => Heap.get?_push_of_some _ e
  have f2 : FpOk (X.hand a) pins H1 s1.heap.objs.size := I1.fpOk (Nat.le_refl _) (I1.hok.fresh (Nat.le_refl _))
  have st2 : (s1.heap.push { cls := .type "list_iterator", dict := none, data := .fields #[.ref l, rawInt 0] }).IsListIter s1.heap.objs.size l 0 := ⟨_, Heap.get?_push_size _ rfl, rfl, rfl⟩
  generalize s1.heap.objs.size = it at *
  have T := turn_list (P := X.prog) (w := X.w) (K := X.K) (tg := tg) l it
  have stat : ∀ {H' : Hp}, H' it = none → FpOk (X.hand a) pins H' it := fun hn => ⟨hn, f2.2⟩
  have hp : PassesOwn (model X.prog X.w) (X.hand a).A X.env (fun _ _ => False) := PassesOwn.never
  refine codeAny_forLoop_any (fun n s' => ∃ i σ' H', Inv (X.hand a) pins σ' H' s' ∧ s'.heap.IsListIter it l i ∧ H' it = none ∧ W i n σ' H') ?_ m0 ⟨0, σ, H1, I2, st2, f2.1, w0⟩
  rintro n s3 ⟨i, σ3, H3, I3, st3, fr3, w3⟩
  obtain ⟨f0, f1, _, f3, f4, f5⟩ := stat fr3
  rcases turn i n σ3 H3 w3 with ⟨⟨ys, hy, hle⟩, qn, C, hC⟩ | ⟨⟨ys, y, hy, hgo⟩, N, hN, step⟩
  · obtain ⟨its', rv', p', hz'⟩ := I3.list hy
    have hl' := rv'.length
    obtain ⟨⟨oe, vs, z1, z2, z3, z4, z5⟩, _⟩ := (show ObjOk X.prog X.w H3 s3.heap a (.ext (isE a C)) from I3.hok a _ hC)
    refine wpAny_passesOwn hp (pyNext_list_endH rfl z1 z4 z5 (fun z => by rw [z, fr3] at hC; cases hC) st3 p'.isList (by simp; omega) fun h' eb => ?_)
    exact wpAny_execs_nil ⟨σ3, H3, I3.turned (t' := s3.toks) (fun b o hb e => eb b o hb e) f0 f1 f3 f4 f5, qn⟩
  · obtain ⟨its', rv', p', hz'⟩ := I3.list hy
    obtain ⟨u, hu, ru⟩ := rv'.get hgo
    refine wpAny_passesOwn hp (wpAny_pyNext_list_item st3 p'.isList (x := u) (by simpa using hu) fun h' st' sb => ?_)
    have I5 : Inv (X.hand a) pins σ3 H3 { s3 with heap := h' } := I3.turned (t' := s3.toks) (fun b o hb e => (sb.2 b hb).trans e) f0 f1 f3 f4 f5
    obtain ⟨oi, ei, ci, di⟩ := id st'
    refine wpAny_passesOwn hp (go_of (s := { s3 with heap := h' }) ei ci di (by decide) ?_)
    have st5 : h'.IsListIter it l (i + 1) := st'
    have I5' := I5.pinned (fp := [it]) (fun b hb => by
      have : b = it := by simpa using hb
      subst this
      exact stat fr3) (T.obj _ _ st5)
    refine wpAny_passesOwn hp (thn (hg _ _ σ3 H3 y u _ I5' ru (step y H3 ⟨rfl, fun zs hzs => by rw [I3.list_inj hzs hy]; exact hgo⟩)) fun _ s6 ⟨σ6, H6, I6, q6⟩ => ?_)
    refine wpAny_passesOwn hp (thn (hb _ s6 σ6 H6 _ I6 q6) fun f s7 q7 => ?_)
    have again : ∀ {σ7 : St} {H7 : Hp}, Inv (X.hand a) (pins ++ pinsAt [it] h') σ7 H7 s7 → N σ7 H7 → ∃ m, m < n ∧ ∃ i σ' H', Inv (X.hand a) pins σ' H' s7 ∧ s7.heap.IsListIter it l i ∧ H' it = none ∧ W i m σ' H' := fun {σ7 H7} I7 n7 => by
      obtain ⟨m', hm, w7⟩ := hN σ7 H7 n7
      refine ⟨m', hm, i + 1, σ7, H7, I7.unpinned, T.keep _ _ _ st5 fun b hb o e => (I7.pin (b, o) (List.mem_append_right _ (List.mem_append_right _ (mem_pinsAt hb e)))).1, ?_, w7⟩
      exact (I7.pin (it, oi) (List.mem_append_right _ (List.mem_append_right _ (mem_pinsAt (List.mem_singleton.mpr rfl) ei)))).2.1
    cases f with
    | next => obtain ⟨σ7, H7, I7, n7⟩ := q7; exact again I7 n7
    | cont => obtain ⟨σ7, H7, I7, n7⟩ := q7; exact again I7 n7
    | brk => obtain ⟨σ7, H7, I7, q7⟩ := q7; exact ⟨σ7, H7, I7.unpinned, q7.1⟩
    | ret v => obtain ⟨x7, σ7, H7, I7, r7, q7⟩ := q7; exact ⟨x7, σ7, H7, I7.unpinned, r7, q7⟩
theorem Tr.keeps {h h' : Heap} {a T : Addr} {c : Value} (t : Tr h a T c) (k : ∀ b o, h.get? b = some o → h'.get? b = some o) : Tr h' a T c := by
  obtain ⟨oe, vs, oT, ts, e1, e2, e3, e4, e5, e6, e7, e8⟩ := t
  exact ⟨oe, vs, oT, ts, k _ _ e1, e2, e3, e4, e5, e6, k _ _ e7, e8⟩
def ClOk (X : Cx) (cl : Expr) (ok : Addr → Prop) : Prop := ∀ (a C T : Addr) (pins : List (Addr × Obj)) (σ : St) (H : Hp) (s : Shared) (Q : Bool → Shared → Prop) (E : Value → Shared → Prop), Inv X pins σ H s → Tr s.heap a T (.ref C) → ok C →
  (∀ h', (∀ b o, s.heap.get? b = some o → h'.get? b = some o) → Q true { s with heap := h' }) →
  wpAny (model X.prog X.w) (X.hand a).A (eval cl X.env) (fun c s1 => wpAny (model X.prog X.w) (X.hand a).A (excMatches (.ref a) c) Q E s1) E s
def tTryG (n i : Nat) (tb : XK → TS) (ok : Addr → Prop) (ts : Addr → TS) : TS := fun D σ H =>
  tb (fun c _ H' => ∃ C, c = .ref C ∧ ok C ∧ ∀ a, H' a = none → ts a { nx := fun _ H => D.nx (List.replicate n none) H, rt := D.rt, bk := fun _ H => D.bk (List.replicate n none) H, ct := fun _ H => D.ct (List.replicate n none) H } ((List.replicate n none).set i (some (.ref a))) (upd H' a (.ext (isE a C)))) D σ H
theorem ps_tryG {X : Cx} {body : List Stmt} {cl : Expr} {n : Str} {hpos pos : Pos} {b0 : Stmt} {suite : List Stmt} {i : Nat} {tb : XK → TS} {ts : Addr → TS} {ok : Addr → Prop}
    (hb : ∀ (f : Value → Shared → Prop) (pn : List (Addr × Obj)) (E' : XK), Passes (CXR X.prog X.w) (X.tryC f pn) E' → PSs (X.tryC f pn) body (tb E')) (hs : ∀ a, PSs (X.hand a) (b0 :: suite) (ts a)) (hcl : ClOk X cl ok)
    (hN : X.N.Nodup) (hi : X.N[i]? = some n) (hk : X.env.scope.names.lookup n = some .local) (hst : X.stack = X.env :: X.outer) (hf : X.env.frame = some X.env.locals) (hex : X.ex = []) :
    PS X (.Try body [.ExceptHandler (some cl) (some n) (b0 :: suite) hpos] [] [] pos) (tTryG X.N.length i tb ok ts) := by
  intro pins s σ H Dn I h
  refine wpAny_Try_except ?_
  refine wpAny_mono (hb (fun e s1 => wpAny (model X.prog X.w) X.A (noteFrame e X.env) (fun _ s2 => wpAny (model X.prog X.w) X.A (setFlight e none) (fun _ s3 => wpAny (model X.prog X.w) X.A (handleBy e X.env [.ExceptHandler (some cl) (some n) (b0 :: suite) hpos]) (SP X pins Dn) X.xe s3) X.xe s2) X.xe s1) (X.pn ++ pins) _ ?_ [] s σ H Dn I.toTry h) ?_ (fun e s1 z => z)
  · intro pins' σ' H1 s1 e s2 I1 ⟨a, T, C, H', he, os, bare, un, hok, tr, na, nT, ha, hT, C', hCe, hit, hts⟩
    subst he
    cases hCe
    have I2 := I1.call' (ch := []) os un hok bare (fun b z => nomatch z)
    have J := (I2.ofTry (pins := pins)).blank
    have I1' := I1.ofTry (pins := pins)
    have dead : ∀ b, s1.heap.get? b = none → X.s₀.heap.get? b = none ∧ b ≠ X.env.locals ∧ (∀ x c, X.env.cells.lookup x = some c → c ≠ b) ∧ ∀ p ∈ X.pn ++ pins, p.1 ≠ b := fun b z => by
      refine ⟨?_, fun y => ?_, fun x c e y => ?_, fun p hp y => ?_⟩
      · cases q : X.s₀.heap.get? b with
        | none => rfl
        | some o =>
          obtain ⟨o2, z2⟩ := I1'.base.there b o q (by rw [hex]; intro y; cases y)
          rw [z] at z2
          cases z2
      · obtain ⟨m, ⟨o, _, _, ho, _⟩, _⟩ := I1'.loc
        rw [← y, z] at ho
        cases ho
      · obtain ⟨v, o, ho, _⟩ := I1'.cell x c e
        rw [y, z] at ho
        cases ho
      · have ho := (I1'.pin p hp).1
        rw [y, z] at ho
        cases ho
    have dead2 : ∀ b, s2.heap.get? b = none → X.s₀.heap.get? b = none ∧ b ≠ X.env.locals ∧ (∀ x c, X.env.cells.lookup x = some c → c ≠ b) ∧ ∀ p ∈ X.pn ++ pins, p.1 ≠ b := fun b z => by
      refine ⟨?_, fun y => ?_, fun x c e y => ?_, fun p hp y => ?_⟩
      · cases q : X.s₀.heap.get? b with
        | none => rfl
        | some o =>
          obtain ⟨o2, z2⟩ := J.base.there b o q (by rw [hex]; intro y; cases y)
          rw [z] at z2
          cases z2
      · obtain ⟨m, ⟨o, _, _, ho, _⟩, _⟩ := J.loc
        rw [← y, z] at ho
        cases ho
      · obtain ⟨v, o, ho, _⟩ := J.cell x c e
        rw [y, z] at ho
        cases ho
      · have ho := (J.pin p hp).1
        rw [y, z] at ho
        cases ho
    show wpAny _ _ (noteFrame (.ref a) X.env) _ _ s2
    refine note_next (base := X.base) (by rw [← hst]; exact J.ok.frames) (by rw [← hst]; exact J.stack) hf tr fun h3 T3 tr3 hT3 lv => ?_
    have J3 : Inv X pins (List.replicate X.N.length none) H' { s2 with heap := h3 } := J.lv (S := [a, T]) (t' := s2.toks) (by rw [hst]; exact lv) fun b hb => by
      have : b = a ∨ b = T := by simpa using hb
      rcases this with rfl | rfl
      · exact ⟨ha, dead _ na⟩
      · exact ⟨hT, dead _ nT⟩
    have hT3' : H' T3 = none ∧ X.s₀.heap.get? T3 = none ∧ T3 ≠ X.env.locals ∧ (∀ x c, X.env.cells.lookup x = some c → c ≠ T3) ∧ ∀ p ∈ X.pn ++ pins, p.1 ≠ T3 := by
      rcases hT3 with rfl | z
      · exact ⟨hT, dead _ nT⟩
      · exact ⟨J.hok.dead z, dead2 _ z⟩
    refine wpAny_handleBy_cons (codeAny_handlers_test ?_) (by intro q; cases q)
    refine hcl a C T3 pins _ H' { s2 with heap := h3 } _ _ J3 tr3 hit fun h3' k3 => ?_
    replace J3 : Inv X pins (List.replicate X.N.length none) H' { s2 with heap := h3' } := J3.kept (t' := s2.toks) fun b u e => k3 b u e
    replace tr3 := tr3.keeps k3
    clear lv k3
    refine codeAny_handlers_suite_as ?_
    refine flight_again (s := { s2 with heap := h3' }) tr3 fun h4 tr4 k4 => ?_
    have J4 : Inv X pins (List.replicate X.N.length none) H' { s2 with heap := h4 } := J3.lv (S := [T3]) (t' := s2.toks) ⟨fun b o _ n2 z => k4 b o (by simpa using n2) z, fun b o m z => ⟨o.slots, k4 b o (fun y => ?_) z⟩⟩ fun b hb => by
      have : b = T3 := by simpa using hb
      subst this
      exact hT3'
    · obtain ⟨oe4, vs4, oT4, ts4, f1, f2, f3, f4, _, _, _, _, _, f5⟩ := id tr4
      have J5 : Inv X pins (List.replicate X.N.length none) (upd H' a (.ext (isE a C))) { s2 with heap := h4 } := J4.trackE ha (dead a na).1 (dead a na).2.1 (dead a na).2.2.1 (dead a na).2.2.2 ⟨⟨oe4, vs4, f1, f2, f3, f4, f5⟩, ⟨oe4, f1⟩, fun x1 x2 ⟨o, vs, z1, z2, z3, z4, z5⟩ kk => ⟨o, vs, kk o z1, z2, z3, z4, z5⟩⟩
      refine store_ok (X := X.hand a) (v := .ref a) (i := i) J5.toHand hN hi (.inl hk) rfl (fun s6 J6 => ?_) (.inr hk)
      refine wpAny_mono (hs a pins s6 _ _ _ J6 (hts a ha)) (fun fl s7 q7 => ?_) (fun _ _ z => z.elim)
      have core : ∀ {σ7 : St} {H7 : Hp}, Inv (X.hand a) pins σ7 H7 s7 → (∀ s8, Inv X pins (List.replicate X.N.length none) H7 s8 → SP X pins Dn fl s8) → wpAny (model X.prog X.w) X.A (do bindName X.env n .none; unbindBehindTheSuite X.env n hpos) (fun _ s8 => SP X pins Dn fl s8) X.xe s7 := fun {σ7 H7} J7 fin => by
        have J8 := J7.ofHand J.ok
        obtain ⟨m, hns, _⟩ := J8.loc
        exact wpAny_nameGoes hk hns (by rw [J.ok.kind]; rfl) fun h8 m8 hn8 sb => fin _ (J8.renamed hn8 sb)
      cases fl with
      | next => obtain ⟨σ7, H7, J7, q8⟩ := q7; exact core J7 fun s8 J8 => ⟨_, _, J8, q8⟩
      | brk => obtain ⟨σ7, H7, J7, q8⟩ := q7; exact core J7 fun s8 J8 => ⟨_, _, J8, q8⟩
      | cont => obtain ⟨σ7, H7, J7, q8⟩ := q7; exact core J7 fun s8 J8 => ⟨_, _, J8, q8⟩
      | ret u => obtain ⟨v, σ7, H7, J7, r7, q8⟩ := q7; exact core J7 fun s8 J8 => ⟨v, _, _, J8, r7, q8⟩
    · subst y
      obtain ⟨_, _, _, _, _, _, _, _, _, _, f7, f8, _⟩ := id tr3
      obtain ⟨_, o', z', hn⟩ := J3.stack.mem m
      rw [f7] at z'
      cases z'
      exact hn _ f8
  · intro f s1 q
    cases f with
    | next => obtain ⟨σ7, H7, J7, q8⟩ := q; exact wpAny_execs_nil ⟨σ7, H7, J7.ofTry, q8⟩
    | brk => obtain ⟨σ7, H7, J7, q8⟩ := q; exact ⟨σ7, H7, J7.ofTry, q8⟩
    | cont => obtain ⟨σ7, H7, J7, q8⟩ := q; exact ⟨σ7, H7, J7.ofTry, q8⟩
    | ret u => obtain ⟨v, σ7, H7, J7, r7, q8⟩ := q; exact ⟨v, σ7, H7, J7.ofTry, r7, q8⟩
theorem exc_match2 {M : Model} {A : Around} {E : Value → Shared → Prop} {h : Heap} {g : Array GenState} {d : Drawn} {t : Nat} {os : OsState} {a C D D2 N N' N2 tup : Addr} {oe : Obj} {nm q nm' q' nm2 q2 : Str} {bs bm bs' bm' bs2 bm2 sub sub' sub2 : List Value} {hdct hdct' hdct2 ab ab' ab2 : Bool} {sn sn' sn2 : List Str} {col col' col2 : Option Bool} {dd dd' dd2 : Option Addr} {k0 k1 k2 k3 k5 l0 l1 l2 l3 l5 j0 j1 j2 j3 j5 : Option Value} {newId newId' newId2 : String} {Q : Bool → Shared → Prop}
    (ht : IsTup h tup #[.ref D, .ref D2])
    (hC : h.get? C = some (excClassObj nm q C N bs bm hdct sn sub ab col dd k0 k1 k2 k3 k5 newId)) (hD : h.get? D = some (excClassObj nm' q' D N' bs' bm' hdct' sn' sub' ab' col' dd' l0 l1 l2 l3 l5 newId')) (hD2 : h.get? D2 = some (excClassObj nm2 q2 D2 N2 bs2 bm2 hdct2 sn2 sub2 ab2 col2 dd2 j0 j1 j2 j3 j5 newId2)) (he : h.get? a = some oe) (hcls : oe.cls = .ref C) (hb : bm'.contains (.type "BaseException") = true) (hb2 : bm2.contains (.type "BaseException") = true)
    (hit : (Value.ref C :: bm).contains (.ref D) = true) (hq : Q true ⟨h, g, d, t, os⟩) : wpAny M A (excMatches (.ref a) (.ref tup)) Q E ⟨h, g, d, t, os⟩ := by
  have c1 : (Value.ref D :: bm').contains (.type "BaseException") = true := by rw [List.contains_cons, hb, Bool.or_true]
  have c2 : (Value.ref D2 :: bm2).contains (.type "BaseException") = true := by rw [List.contains_cons, hb2, Bool.or_true]
  have f := tc_notTuple
  obtain ⟨o, ho, hc, n, hd⟩ := ht
  unfold excMatches
  refine wpAny_bind (wpAny_isInstance ⟨o, ho, hc⟩ isSubtype_tuple_tuple ?_)
  dsimp only
  rw [if_pos rfl]
  refine wpAny_bind (wpAny_seqItems ho hd ?_)
  dsimp only [Option.getD_some, Option.getD]
  repeat (first | (with_reducible refine wpAny_loadPart_at he ?_; rw [hcls]) | with_reducible refine wpAny_loadPart_at hD ?_ | with_reducible refine wpAny_loadPart_at hD2 ?_ | (with_reducible refine wpAny_isSubtype_exc hD ?_; rw [c1]) | (with_reducible refine wpAny_isSubtype_exc hD2 ?_; rw [c2]) | (with_reducible refine wpAny_isSubtype_exc hC ?_; rw [hit]) | wp_step)
  all_goals exact hq
theorem cl_two {X : Cx} {x x2 : Str} {np np2 tp : Pos} {kk : Nat} {D D2 : Addr} (hg : Gl X x) (hm : X.mg x = some (.ref D)) (hD : ExcK X.K D) (hg2 : Gl X x2) (hm2 : X.mg x2 = some (.ref D2)) (hD2 : ExcK X.K D2) (hdb : (x == ("__debug__" : Str)) = false := by decide) (hdb2 : (x2 == ("__debug__" : Str)) = false := by decide) : ClOk X (.Tuple [.Name x np, .Name x2 np2] kk tp) (fun C => HitE X.K C D) := by
  intro a C T pins σ H s Q E I tr hit k
  refine Tuple_ (spliced_more (ld_glob (X := { X with xe := E }.hand a) (E := E) I.toHand hg hm (spliced_more (ld_glob (X := { X with xe := E }.hand a) (E := E) I.toHand hg2 hm2 (spliced_none ?_) hdb2)) hdb))
  refine wpAny_newObj_type ?_
  have kp : ∀ b o, s.heap.get? b = some o → (s.heap.push { cls := .type "tuple", dict := none, data := .seq [Value.ref D, .ref D2].toArray }).get? b = some o := fun b o e => Heap.get?_push_of_some _ e
  obtain ⟨bm, N, nm, q, bs, hd, sn, sub, ab, col, dd, k0, k1, k2, k3, k5, mN, hC, _, _, _⟩ := exc_of I.mod.kin hit.1
  obtain ⟨bm', N', nm', q', bs', hd', sn', sub', ab', col', dd', l0, l1, l2, l3, l5, mN', hC', _, _, T'⟩ := exc_of I.mod.kin hD
  obtain ⟨bm2, N2, nm2, q2, bs2, hd2, sn2, sub2, ab2, col2, dd2, j0, j1, j2, j3, j5, mN2, hC2, _, _, T2⟩ := exc_of I.mod.kin hD2
  obtain ⟨oe, vs, oT, ts', e1, e2, e3, e4, e5⟩ := id tr
  exact exc_match2 (IsTup.new _ _) (kp _ _ (I.bk _ _ hC)) (kp _ _ (I.bk _ _ hC')) (kp _ _ (I.bk _ _ hC2)) (kp _ _ e1) e2 (T'.hasType (by decide)) (T2.hasType (by decide)) (mro_of I.mod.kin hC hit.2) (k _ kp)
def rFs (y : Str) : V → Hp → VK → Prop := fun v H Q => ∃ x, v = .str x ∧ x.length ≤ 1000 ∧ y.length ≤ 1000 ∧ ∀ z, Q (.str z) H
def tFs (te : TE) (y : Str) : TE := fun σ H Q => te σ H fun v H1 => rFs y v H1 Q
theorem pe_fstr2 {X : Cx} {e : Expr} {te : TE} {y : Str} {k : Nat} {p1 p2 pos : Pos} (he : PE X e te) : PE X (.JoinedStr [.FormattedValue e (-1) none p1, .Constant (.str y) k p2] pos) (tFs te y) := by
  intro pins s σ H Q I h
  refine wpAny_JoinedStr ?_
  show wpAny _ _ (eval (.FormattedValue e (-1) none p1) X.env) _ _ s
  refine PySem.wpAny_FormattedValue_plain (thn (he pins s σ H _ I h) fun v s1 ⟨w, H1, I1, r1, x, e, hl, hy, q⟩ => ?_)
  subst e
  obtain ⟨t, rfl⟩ := r1
  have e0 : (Str.empty ++ x).length = x.length := by rw [strLen_append]; show 0 + _ = _; omega
  refine formatField_str (fun t' tk => ⟨x, t', rfl, small (m := 1000) (by rw [e0]; exact hl), ?_⟩) (small hl)
  show wpAny _ _ (eval (.Constant (.str y) k p2) X.env) _ _ _
  refine Calls.Constant_str ⟨y, _, rfl, ?_, ?_, ?_⟩
  · exact small (m := 2000) (by rw [strLen_append, e0]; omega)
  · exact small (m := 2000) (by rw [strLen_append, e0]; omega)
  · exact ⟨.str _, H1, (I1.tok _).tok _, ⟨_, rfl⟩, q _⟩
section
variable {σ : St} {H : Hp} {Q : VK} {D : Ends}
theorem r_fs {te : TE} {y : Str} (h : te σ H fun v H1 => rFs y v H1 Q) : tFs te y σ H Q := h
theorem r_fsS {x y : Str} (h1 : x.length ≤ 1000) (h2 : y.length ≤ 1000) (h : ∀ z, Q (.str z) H) : rFs y (.str x) H Q := ⟨x, rfl, h1, h2, h⟩
theorem r_tryG {n i : Nat} {tb : XK → TS} {ok : Addr → Prop} {ts : Addr → TS} (h : tb (fun c _ H' => ∃ C, c = .ref C ∧ ok C ∧ ∀ a, H' a = none → ts a { nx := fun _ H => D.nx (List.replicate n none) H, rt := D.rt, bk := fun _ H => D.bk (List.replicate n none) H, ct := fun _ H => D.ct (List.replicate n none) H } ((List.replicate n none).set i (some (.ref a))) (upd H' a (.ext (isE a C)))) D σ H) : tTryG n i tb ok ts D σ H := h
theorem r_forH {a : Addr} {wi : TI} {g : TG} {tb : TS} (h : tFor wi g tb { D with nx := fun σ H => D.nx σ H ∧ ∃ C, H a = some (.ext (isE a C)) } σ H) : tForH a wi g tb D σ H := h
end
end L2

set_option maxHeartbeats 4000000
namespace My
open PySem L2
local macro_rules | `(tactic| walk_at "same") => `(tactic| first
  | exact Same.refl _
  | assumption
  | (refine' Same.trans ?m ?s; (case s => assumption); (case m => walk_at "same")))
local macro_rules | `(tactic| walk_at "at") => `(tactic| first
  | assumption
  | exact upd_same
  | (refine' Same.at ?s ?m; (case s => assumption); (case m => walk_at "at")))
local macro_rules | `(tactic| walk_at "dat") => `(tactic| first
  | exact Dv.int _
  | exact Dv.non
  | exact Dv.bl _
  | exact Dv.str _
  | assumption
  | (refine' Dv.keeps ?s ?m; (case s => assumption); (case m => walk_at "dat")))
local macro_rules | `(tactic| walk_at "ins") => `(tactic| first
  | assumption
  | (refine' Ins.keeps ?s ?m; (case s => assumption); (case m => walk_at "ins")))
local macro_rules | `(tactic| walk_at "dats") => `(tactic| first
  | exact Dvs.nil
  | (refine' Dvs.cons ?m ?s; (case m => walk_at "dat"); (case s => walk_at "dats"))
  | assumption
  | (refine' Dvs.keeps ?s ?m; (case s => assumption); (case m => walk_at "dats")))
local macro_rules | `(tactic| walk_at "sql") => `(tactic| first
  | assumption
  | (refine' Same.seq ?s ?m; (case s => assumption); (case m => walk_at "sql")))
local macro_rules | `(tactic| walk_at "isq") => `(tactic| first
  | (refine' Or.inl ?m; case m => walk_at "dat")
  | (refine' Or.inr ?m; case m => walk_at "dat"))
set_option hygiene false in
local macro_rules | `(tactic| walk_at "side") => `(tactic| first
  | omega
  | assumption
  | exact (by decide)
  | exact cdivB (by omega) (by omega)
  | exact ⟨by decide, by decide, by decide⟩)
set_option hygiene false in
local macro_rules | `(tactic| walk_at "use") => `(tactic| fail)
set_option hygiene false in
local macro_rules | `(tactic| walk_at "lk") => `(tactic| fail)
set_option hygiene false in
local macro_rules | `(tactic| walk_at "put") => `(tactic| fail)
set_option hygiene false in
local macro_rules | `(tactic| walk_at "fin") => `(tactic| fail)
set_option hygiene false in
local macro_rules | `(tactic| walk_at "wds") => `(tactic| first
  | with_reducible refine r_wd (ws := [_]) rfl ?_
  | with_reducible refine r_wd (ws := [_, _]) rfl ?_
  | with_reducible refine r_wd (ws := [_, _, _]) rfl ?_
  | with_reducible refine r_wd (ws := [_, _, _, _]) rfl ?_
  | with_reducible refine r_wd (ws := [_, _, _, _, _]) rfl ?_
  | with_reducible refine r_wd (ws := [_, _, _, _, _, _]) rfl ?_
  | with_reducible refine r_wd (ws := []) rfl ?_)
set_option hygiene false in
local macro_rules | `(tactic| walk_at "mks") => `(tactic| first
  | fail)
local macro_rules | `(tactic| walk_at "br") => `(tactic| ((with_reducible refine if_bl (fun hb => ?_) (fun hb => ?_)) <;> (try simp only [id, decide_eq_true_eq, decide_eq_false_iff_not, Bool.not_eq_true', Bool.not_eq_false', Bool.not_true, Bool.not_false, V.int.injEq, Bool.true_eq_false, Bool.false_eq_true, reduceCtorEq, decide_true, decide_false, not_true, not_false_iff, PyData.eqv, PyData.eqvAll, Bool.and_eq_true, Bool.and_eq_false_iff, Bool.or_eq_true, Bool.or_eq_false_iff, beq_iff_eq, beq_eq_false_iff_ne, ne_eq, bne_iff_ne, Bool.and_true, Bool.and_false, Bool.and_self, beq_self_eq_true, isInt, isBool, isStr, isLst, isTup, isDct, List.length_cons, List.length_nil] at hb) <;> (try (exfalso; omega)) <;> (try (exfalso; (refine' ref_ne hb ?d); (case d => walk_at "dat")))))
local macro_rules | `(tactic| walk_at "rd1") => `(tactic| first
  | with_reducible refine r_cutS ?_
  | with_reducible refine r_asg ?_
  | with_reducible refine r_ret ?_
  | with_reducible refine r_drop ?_
  | with_reducible refine r_ifS ?_
  | ((with_reducible refine' r_var ?e ?_); case e => exact rfl)
  | with_reducible refine r_c ?_
  | with_reducible refine r_op ?_
  | with_reducible refine r_i0 ?_
  | ((with_reducible refine' r_powE ?e1 ?e2 ?_); (case e1 => exact ⟨by decide, by decide, by decide⟩); (case e2 => ((conv => lhs; simp only [Int.reduceToNat]) <;> exact rfl)))
  | ((with_reducible refine' r_i ?e ?_); case e => walk_at "side")
  | with_reducible refine r_cons ?_
  | with_reducible refine r_nil ?_
  | with_reducible refine r_callN ?_
  | with_reducible refine r_cb ?_
  | with_reducible refine r_test ?_
  | with_reducible refine r_and ?_
  | with_reducible refine r_or ?_
  | with_reducible refine r_not ?_
  | with_reducible refine r_andV ?_
  | with_reducible refine r_notV ?_
  | with_reducible refine r_bl ?_
  | with_reducible refine r_truB ?_
  | with_reducible refine if_true' ?_
  | with_reducible refine if_false' ?_
  | walk_at "br"
  | with_reducible refine r_next ?_
  | ((with_reducible refine' r_eqS ?e ?_); case e => exact rfl)
  | ((with_reducible refine' r_ixD ?e1 ?e2 ?_); (case e1 => walk_at "isq"); (case e2 => exact rfl))
  | ((with_reducible refine' r_lenK ?e ?_); case e => walk_at "isq")
  | ((with_reducible refine' r_lenL ?e ?_); case e => walk_at "sql")
  | ((with_reducible refine' r_strI ?e1 ?e2 ?_); (case e1 => omega); (case e2 => omega))
  | ((with_reducible refine' r_modP ?e (fun _ _ => ?_)); case e => walk_at "side")
  | with_reducible refine r_is ?_
  | with_reducible refine r_sfld ?_
  | ((with_reducible refine' r_sfldv ?e1 ?e2 ?e3 ?e4 ?e5 ?_); (case e1 => walk_at "at"); (case e2 => assumption); (case e3 => assumption); (case e4 => exact len1000 rfl); (case e5 => walk_at "put"))
  | ((with_reducible refine' r_isi_int ?e ?_); case e => walk_at "dat")
  | ((with_reducible refine' r_isi_bool ?e ?_); case e => walk_at "dat")
  | ((with_reducible refine' r_isiI ?e1 ?e2 ?e3 ?e4 ?_); (case e1 => walk_at "ins"); (case e2 => assumption); (case e3 => assumption); (case e4 => assumption))
  | with_reducible refine got_int ?_
  | with_reducible refine r_lstD ?_
  | ((with_reducible refine' r_lstE ?e1 ?e2 (fun _ _ _ _ _ _ _ => ?_)); (case e1 => exact len64 rfl); (case e2 => walk_at "dats"))
  | with_reducible refine r_for ?_
  | with_reducible refine r_makeN ?_
  | with_reducible refine got_any (fun _ _ => ?_)
  | walk_at "wds"
  | walk_at "mks"
  | walk_at "use"
  | walk_at "fin")
local macro_rules | `(tactic| walk_at "lat") => `(tactic| first
  | assumption
  | (refine' LAt.keeps ?s ?m; (case s => assumption); (case m => walk_at "lat"))
  | fail)
set_option hygiene false in
local macro_rules | `(tactic| walk_at "nin") => `(tactic| first
  | fail)
local macro_rules | `(tactic| walk_at "ne") => `(tactic| first
  | assumption
  | (refine Ne.symm ?_; assumption)
  | (refine' LAt.ne ?h ?n; (case n => assumption); (case h => walk_at "lat"))
  | (refine' Ne.symm (LAt.ne ?h ?n); (case n => assumption); (case h => walk_at "lat"))
  | fail)
local macro_rules | `(tactic| walk_at "dla") => `(tactic| first
  | assumption
  | (refine' DAt.keeps ?s ?m; (case s => assumption); (case m => walk_at "dla"))
  | fail)
local macro_rules | `(tactic| walk_at "ne") => `(tactic| first
  | (refine' DAt.ne ?h ?n; (case n => assumption); (case h => walk_at "dla"))
  | (refine' Ne.symm (DAt.ne ?h ?n); (case n => assumption); (case h => walk_at "dla"))
  | fail)
set_option hygiene false in
local macro_rules | `(tactic| walk_at "imm") => `(tactic| first
  | rfl
  | assumption
  | fail)
set_option hygiene false in
local macro_rules | `(tactic| walk_at "dm") => `(tactic| first
  | exact fun _ h => h
  | fail)
set_option hygiene false in
local macro_rules | `(tactic| walk_at "none") => `(tactic| first
  | assumption
  | fail)
set_option hygiene false in
local macro_rules | `(tactic| walk_at "same") => `(tactic| first
  | fail)
local macro_rules | `(tactic| walk_at "mv") => `(tactic| first
  | exact Mv.refl
  | assumption
  | (refine' Mv.step ?m ?s ?h; (case s => assumption); (case m => walk_at "mv"); (case h => walk_at "ours"))
  | fail)
set_option hygiene false in
local macro_rules | `(tactic| walk_at "ours") => `(tactic| first
  | fail)
local macro_rules | `(tactic| walk_at "dat") => `(tactic| first
  | (refine' LAt.dv ?m; (case m => walk_at "lat"))
  | fail)
set_option hygiene false in
local macro_rules | `(tactic| walk_at "dats") => `(tactic| first
  | fail)
set_option hygiene false in
local macro_rules | `(tactic| walk_at "len") => `(tactic| first
  | (simp only [List.length_map, List.length_append, List.length_cons, List.length_nil]; omega)
  | omega
  | fail)
local macro_rules | `(tactic| walk_at "rd1") => `(tactic| first
  | with_reducible refine r_sl ?_
  | with_reducible refine r_part ?_
  | with_reducible refine r_noPart ?_
  | with_reducible refine r_partI ?_
  | ((with_reducible refine' r_ixD ?e1 ?e2 ?_); (case e1 => walk_at "isq"); (case e2 => first | exact atI_lastM | (refine' atI_mapI ?a ?b; (case a => omega); (case b => walk_at "len")) | fail))
  | fail)
set_option hygiene false in
local macro_rules | `(tactic| walk_at "rd1") => `(tactic| first
  | fail)
set_option hygiene false in
local macro_rules | `(tactic| walk_at "rd1") => `(tactic| first
  | fail)
local macro_rules | `(tactic| walk_at "rd1") => `(tactic| first
  | with_reducible refine r_raise ?_
  | with_reducible refine r_raised ?_
  | ((with_reducible refine' r_isiE ?e1 ?e2 ?e3 ?_); (case e1 => walk_at "at"); (case e2 => assumption); (case e3 => assumption))
  | ((with_reducible refine' r_isiT ?e1 ?e2 ?e3 ?_); (case e1 => walk_at "at"); (case e2 => assumption); (case e3 => assumption))
  | fail)
local macro_rules | `(tactic| walk_at "rd1") => `(tactic| first
  | with_reducible refine r_tryG ?_
  | with_reducible refine r_forH ?_
  | with_reducible refine r_fs ?_
  | ((with_reducible refine' r_fsS ?e1 ?e2 (fun _ => ?_)); (case e1 => walk_at "len"); (case e2 => decide))
  | fail)

def top (i : Nat) : Stmt := PySem.Challenge.pw_wakefew_k06_rules_refused.main.body.getD i (.Pass ⟨0, 0, 0, 0⟩)
abbrev s_is_whole : Stmt := top 9
theorem sc_is_whole : FnScope ["thing"] ["thing"] (defScope s_is_whole) := ⟨rfl, rfl, rfl, by decide +kernel, rfl, by decide +kernel, by decide +kernel⟩
abbrev s_check_from : Stmt := top 11
theorem sc_check_from : FnScope ["number", "least", "what"] ["number", "least", "what"] (defScope s_check_from) := ⟨rfl, rfl, rfl, by decide +kernel, rfl, by decide +kernel, by decide +kernel⟩
abbrev s_Rule___init__ : Stmt := inClass (top 12) 0
theorem sc_Rule___init__ : FnScope ["self", "many"] ["self", "many"] (defScope s_Rule___init__) := ⟨rfl, rfl, rfl, by decide +kernel, rfl, by decide +kernel, by decide +kernel⟩
abbrev s_Once___init__ : Stmt := inClass (top 13) 0
theorem sc_Once___init__ : FnScope ["self", "first", "last"] ["self", "first", "last"] (defScope s_Once___init__) := ⟨rfl, rfl, rfl, by decide +kernel, rfl, by decide +kernel, by decide +kernel⟩
abbrev s_Each___init__ : Stmt := inClass (top 14) 0
theorem sc_Each___init__ : FnScope ["self", "start", "step", "wide", "many"] ["self", "start", "step", "wide", "many"] (defScope s_Each___init__) := ⟨rfl, rfl, rfl, by decide +kernel, rfl, by decide +kernel, by decide +kernel⟩
abbrev s_Behind___init__ : Stmt := inClass (top 15) 0
theorem sc_Behind___init__ : FnScope ["self", "start", "gap", "wide", "many"] ["self", "start", "gap", "wide", "many"] (defScope s_Behind___init__) := ⟨rfl, rfl, rfl, by decide +kernel, rfl, by decide +kernel, by decide +kernel⟩
abbrev s_Slowing___init__ : Stmt := inClass (top 16) 0
theorem sc_Slowing___init__ : FnScope ["self", "start", "gap", "most", "wide", "many"] ["self", "start", "gap", "most", "wide", "many"] (defScope s_Slowing___init__) := ⟨rfl, rfl, rfl, by decide +kernel, rfl, by decide +kernel, by decide +kernel⟩
abbrev s__law_cell_at : Stmt := top 18
theorem sc__law_cell_at : FnScope ["_law_script", "_law_k"] ["_law_script", "_law_k"] (defScope s__law_cell_at) := ⟨rfl, rfl, rfl, by decide +kernel, rfl, by decide +kernel, by decide +kernel⟩
abbrev s__law_number : Stmt := top 19
theorem sc__law_number : FnScope ["_law_cell"] ["_law_cell"] (defScope s__law_number) := ⟨rfl, rfl, rfl, by decide +kernel, rfl, by decide +kernel, by decide +kernel⟩
abbrev s__law_numbers : Stmt := top 20
theorem sc__law_numbers : FnScope ["_law_kind", "_law_script", "_law_start", "_law_gap", "_law_wide", "_law_many"] ["_law_kind", "_law_script"] (defScope s__law_numbers) := ⟨rfl, rfl, rfl, by decide +kernel, rfl, by decide +kernel, by decide +kernel⟩
abbrev s__law_leasts : Stmt := top 21
theorem sc__law_leasts : FnScope ["_law_kind", "_law_some"] ["_law_kind", "_law_some"] (defScope s__law_leasts) := ⟨rfl, rfl, rfl, by decide +kernel, rfl, by decide +kernel, by decide +kernel⟩
abbrev s__law_spoiled : Stmt := top 22
theorem sc__law_spoiled : FnScope ["_law_kind", "_law_some", "_law_cell", "_law_at", "_law_way", "_law_number_here", "_law_least", "_law_void", "_law_ways"] ["_law_kind", "_law_some", "_law_cell"] (defScope s__law_spoiled) := ⟨rfl, rfl, rfl, by decide +kernel, rfl, by decide +kernel, by decide +kernel⟩
abbrev s__law_made : Stmt := top 23
theorem sc__law_made : FnScope ["_law_kind", "_law_some"] ["_law_kind", "_law_some"] (defScope s__law_made) := ⟨rfl, rfl, rfl, by decide +kernel, rfl, by decide +kernel, by decide +kernel⟩
abbrev s__law_refused : Stmt := top 24
theorem sc__law_refused : FnScope ["_law_kind", "_law_some", "_law_other", "e"] ["_law_kind", "_law_some"] (defScope s__law_refused) := ⟨rfl, rfl, rfl, by decide +kernel, rfl, by decide +kernel, by decide +kernel⟩
abbrev s_law : Stmt := top 25
theorem sc_law : FnScope ["_law_script", "_law_kind", "_law_good", "_law_some", "_law_at", "_law_second", "_law_made_here"] ["_law_script"] (defScope s_law) := ⟨rfl, rfl, rfl, by decide +kernel, rfl, by decide +kernel, by decide +kernel⟩
theorem ne_many_first : ¬ (("many" : Str) = "first") := by decide +kernel
theorem ne_many_last : ¬ (("many" : Str) = "last") := by decide +kernel
theorem ne_many_start : ¬ (("many" : Str) = "start") := by decide +kernel
theorem ne_many_step : ¬ (("many" : Str) = "step") := by decide +kernel
theorem ne_many_wide : ¬ (("many" : Str) = "wide") := by decide +kernel
theorem ne_many_gap : ¬ (("many" : Str) = "gap") := by decide +kernel
theorem ne_many_most : ¬ (("many" : Str) = "most") := by decide +kernel
theorem ne_first_many : ¬ (("first" : Str) = "many") := by decide +kernel
theorem ne_first_last : ¬ (("first" : Str) = "last") := by decide +kernel
theorem ne_first_start : ¬ (("first" : Str) = "start") := by decide +kernel
theorem ne_first_step : ¬ (("first" : Str) = "step") := by decide +kernel
theorem ne_first_wide : ¬ (("first" : Str) = "wide") := by decide +kernel
theorem ne_first_gap : ¬ (("first" : Str) = "gap") := by decide +kernel
theorem ne_first_most : ¬ (("first" : Str) = "most") := by decide +kernel
theorem ne_last_many : ¬ (("last" : Str) = "many") := by decide +kernel
theorem ne_last_first : ¬ (("last" : Str) = "first") := by decide +kernel
theorem ne_last_start : ¬ (("last" : Str) = "start") := by decide +kernel
theorem ne_last_step : ¬ (("last" : Str) = "step") := by decide +kernel
theorem ne_last_wide : ¬ (("last" : Str) = "wide") := by decide +kernel
theorem ne_last_gap : ¬ (("last" : Str) = "gap") := by decide +kernel
theorem ne_last_most : ¬ (("last" : Str) = "most") := by decide +kernel
theorem ne_start_many : ¬ (("start" : Str) = "many") := by decide +kernel
theorem ne_start_first : ¬ (("start" : Str) = "first") := by decide +kernel
theorem ne_start_last : ¬ (("start" : Str) = "last") := by decide +kernel
theorem ne_start_step : ¬ (("start" : Str) = "step") := by decide +kernel
theorem ne_start_wide : ¬ (("start" : Str) = "wide") := by decide +kernel
theorem ne_start_gap : ¬ (("start" : Str) = "gap") := by decide +kernel
theorem ne_start_most : ¬ (("start" : Str) = "most") := by decide +kernel
theorem ne_step_many : ¬ (("step" : Str) = "many") := by decide +kernel
theorem ne_step_first : ¬ (("step" : Str) = "first") := by decide +kernel
theorem ne_step_last : ¬ (("step" : Str) = "last") := by decide +kernel
theorem ne_step_start : ¬ (("step" : Str) = "start") := by decide +kernel
theorem ne_step_wide : ¬ (("step" : Str) = "wide") := by decide +kernel
theorem ne_step_gap : ¬ (("step" : Str) = "gap") := by decide +kernel
theorem ne_step_most : ¬ (("step" : Str) = "most") := by decide +kernel
theorem ne_wide_many : ¬ (("wide" : Str) = "many") := by decide +kernel
theorem ne_wide_first : ¬ (("wide" : Str) = "first") := by decide +kernel
theorem ne_wide_last : ¬ (("wide" : Str) = "last") := by decide +kernel
theorem ne_wide_start : ¬ (("wide" : Str) = "start") := by decide +kernel
theorem ne_wide_step : ¬ (("wide" : Str) = "step") := by decide +kernel
theorem ne_wide_gap : ¬ (("wide" : Str) = "gap") := by decide +kernel
theorem ne_wide_most : ¬ (("wide" : Str) = "most") := by decide +kernel
theorem ne_gap_many : ¬ (("gap" : Str) = "many") := by decide +kernel
theorem ne_gap_first : ¬ (("gap" : Str) = "first") := by decide +kernel
theorem ne_gap_last : ¬ (("gap" : Str) = "last") := by decide +kernel
theorem ne_gap_start : ¬ (("gap" : Str) = "start") := by decide +kernel
theorem ne_gap_step : ¬ (("gap" : Str) = "step") := by decide +kernel
theorem ne_gap_wide : ¬ (("gap" : Str) = "wide") := by decide +kernel
theorem ne_gap_most : ¬ (("gap" : Str) = "most") := by decide +kernel
theorem ne_most_many : ¬ (("most" : Str) = "many") := by decide +kernel
theorem ne_most_first : ¬ (("most" : Str) = "first") := by decide +kernel
theorem ne_most_last : ¬ (("most" : Str) = "last") := by decide +kernel
theorem ne_most_start : ¬ (("most" : Str) = "start") := by decide +kernel
theorem ne_most_step : ¬ (("most" : Str) = "step") := by decide +kernel
theorem ne_most_wide : ¬ (("most" : Str) = "wide") := by decide +kernel
theorem ne_most_gap : ¬ (("most" : Str) = "gap") := by decide +kernel
theorem ne___init___many : ¬ (("__init__" : Str) = "many") := by decide +kernel
theorem ne___init___first : ¬ (("__init__" : Str) = "first") := by decide +kernel
theorem ne___init___last : ¬ (("__init__" : Str) = "last") := by decide +kernel
theorem ne___init___start : ¬ (("__init__" : Str) = "start") := by decide +kernel
theorem ne___init___step : ¬ (("__init__" : Str) = "step") := by decide +kernel
theorem ne___init___wide : ¬ (("__init__" : Str) = "wide") := by decide +kernel
theorem ne___init___gap : ¬ (("__init__" : Str) = "gap") := by decide +kernel
theorem ne___init___most : ¬ (("__init__" : Str) = "most") := by decide +kernel
theorem ne_begin_many : ¬ (("begin" : Str) = "many") := by decide +kernel
theorem ne_begin_first : ¬ (("begin" : Str) = "first") := by decide +kernel
theorem ne_begin_last : ¬ (("begin" : Str) = "last") := by decide +kernel
theorem ne_begin_start : ¬ (("begin" : Str) = "start") := by decide +kernel
theorem ne_begin_step : ¬ (("begin" : Str) = "step") := by decide +kernel
theorem ne_begin_wide : ¬ (("begin" : Str) = "wide") := by decide +kernel
theorem ne_begin_gap : ¬ (("begin" : Str) = "gap") := by decide +kernel
theorem ne_begin_most : ¬ (("begin" : Str) = "most") := by decide +kernel
theorem ne_follow_many : ¬ (("follow" : Str) = "many") := by decide +kernel
theorem ne_follow_first : ¬ (("follow" : Str) = "first") := by decide +kernel
theorem ne_follow_last : ¬ (("follow" : Str) = "last") := by decide +kernel
theorem ne_follow_start : ¬ (("follow" : Str) = "start") := by decide +kernel
theorem ne_follow_step : ¬ (("follow" : Str) = "step") := by decide +kernel
theorem ne_follow_wide : ¬ (("follow" : Str) = "wide") := by decide +kernel
theorem ne_follow_gap : ¬ (("follow" : Str) = "gap") := by decide +kernel
theorem ne_follow_most : ¬ (("follow" : Str) = "most") := by decide +kernel
theorem ne_let_by_many : ¬ (("let_by" : Str) = "many") := by decide +kernel
theorem ne_let_by_first : ¬ (("let_by" : Str) = "first") := by decide +kernel
theorem ne_let_by_last : ¬ (("let_by" : Str) = "last") := by decide +kernel
theorem ne_let_by_start : ¬ (("let_by" : Str) = "start") := by decide +kernel
theorem ne_let_by_step : ¬ (("let_by" : Str) = "step") := by decide +kernel
theorem ne_let_by_wide : ¬ (("let_by" : Str) = "wide") := by decide +kernel
theorem ne_let_by_gap : ¬ (("let_by" : Str) = "gap") := by decide +kernel
theorem ne_let_by_most : ¬ (("let_by" : Str) = "most") := by decide +kernel
theorem ne_words_many : ¬ (("words" : Str) = "many") := by decide +kernel
theorem ne_words_first : ¬ (("words" : Str) = "first") := by decide +kernel
theorem ne_words_last : ¬ (("words" : Str) = "last") := by decide +kernel
theorem ne_words_start : ¬ (("words" : Str) = "start") := by decide +kernel
theorem ne_words_step : ¬ (("words" : Str) = "step") := by decide +kernel
theorem ne_words_wide : ¬ (("words" : Str) = "wide") := by decide +kernel
theorem ne_words_gap : ¬ (("words" : Str) = "gap") := by decide +kernel
theorem ne_words_most : ¬ (("words" : Str) = "most") := by decide +kernel
theorem ne_twin_many : ¬ (("twin" : Str) = "many") := by decide +kernel
theorem ne_twin_first : ¬ (("twin" : Str) = "first") := by decide +kernel
theorem ne_twin_last : ¬ (("twin" : Str) = "last") := by decide +kernel
theorem ne_twin_start : ¬ (("twin" : Str) = "start") := by decide +kernel
theorem ne_twin_step : ¬ (("twin" : Str) = "step") := by decide +kernel
theorem ne_twin_wide : ¬ (("twin" : Str) = "wide") := by decide +kernel
theorem ne_twin_gap : ¬ (("twin" : Str) = "gap") := by decide +kernel
theorem ne_twin_most : ¬ (("twin" : Str) = "most") := by decide +kernel
theorem ne_place_of_many : ¬ (("place_of" : Str) = "many") := by decide +kernel
theorem ne_place_of_first : ¬ (("place_of" : Str) = "first") := by decide +kernel
theorem ne_place_of_last : ¬ (("place_of" : Str) = "last") := by decide +kernel
theorem ne_place_of_start : ¬ (("place_of" : Str) = "start") := by decide +kernel
theorem ne_place_of_step : ¬ (("place_of" : Str) = "step") := by decide +kernel
theorem ne_place_of_wide : ¬ (("place_of" : Str) = "wide") := by decide +kernel
theorem ne_place_of_gap : ¬ (("place_of" : Str) = "gap") := by decide +kernel
theorem ne_place_of_most : ¬ (("place_of" : Str) = "most") := by decide +kernel
theorem ne_stretch_of_many : ¬ (("stretch_of" : Str) = "many") := by decide +kernel
theorem ne_stretch_of_first : ¬ (("stretch_of" : Str) = "first") := by decide +kernel
theorem ne_stretch_of_last : ¬ (("stretch_of" : Str) = "last") := by decide +kernel
theorem ne_stretch_of_start : ¬ (("stretch_of" : Str) = "start") := by decide +kernel
theorem ne_stretch_of_step : ¬ (("stretch_of" : Str) = "step") := by decide +kernel
theorem ne_stretch_of_wide : ¬ (("stretch_of" : Str) = "wide") := by decide +kernel
theorem ne_stretch_of_gap : ¬ (("stretch_of" : Str) = "gap") := by decide +kernel
theorem ne_stretch_of_most : ¬ (("stretch_of" : Str) = "most") := by decide +kernel
theorem ne_gap_ahead_many : ¬ (("gap_ahead" : Str) = "many") := by decide +kernel
theorem ne_gap_ahead_first : ¬ (("gap_ahead" : Str) = "first") := by decide +kernel
theorem ne_gap_ahead_last : ¬ (("gap_ahead" : Str) = "last") := by decide +kernel
theorem ne_gap_ahead_start : ¬ (("gap_ahead" : Str) = "start") := by decide +kernel
theorem ne_gap_ahead_step : ¬ (("gap_ahead" : Str) = "step") := by decide +kernel
theorem ne_gap_ahead_wide : ¬ (("gap_ahead" : Str) = "wide") := by decide +kernel
theorem ne_gap_ahead_gap : ¬ (("gap_ahead" : Str) = "gap") := by decide +kernel
theorem ne_gap_ahead_most : ¬ (("gap_ahead" : Str) = "most") := by decide +kernel
theorem ne_leap_many : ¬ (("leap" : Str) = "many") := by decide +kernel
theorem ne_leap_first : ¬ (("leap" : Str) = "first") := by decide +kernel
theorem ne_leap_last : ¬ (("leap" : Str) = "last") := by decide +kernel
theorem ne_leap_start : ¬ (("leap" : Str) = "start") := by decide +kernel
theorem ne_leap_step : ¬ (("leap" : Str) = "step") := by decide +kernel
theorem ne_leap_wide : ¬ (("leap" : Str) = "wide") := by decide +kernel
theorem ne_leap_gap : ¬ (("leap" : Str) = "gap") := by decide +kernel
theorem ne_leap_most : ¬ (("leap" : Str) = "most") := by decide +kernel
set_option hygiene false in
local macro_rules | `(tactic| walk_at "lk") => `(tactic| first
  | assumption
  | (rw [lookup_look]; ((conv => lhs; simp only [look, reduceIte, ne_many_first, ne_many_last, ne_many_start, ne_many_step, ne_many_wide, ne_many_gap, ne_many_most, ne_first_many, ne_first_last, ne_first_start, ne_first_step, ne_first_wide, ne_first_gap, ne_first_most, ne_last_many, ne_last_first, ne_last_start, ne_last_step, ne_last_wide, ne_last_gap, ne_last_most, ne_start_many, ne_start_first, ne_start_last, ne_start_step, ne_start_wide, ne_start_gap, ne_start_most, ne_step_many, ne_step_first, ne_step_last, ne_step_start, ne_step_wide, ne_step_gap, ne_step_most, ne_wide_many, ne_wide_first, ne_wide_last, ne_wide_start, ne_wide_step, ne_wide_gap, ne_wide_most, ne_gap_many, ne_gap_first, ne_gap_last, ne_gap_start, ne_gap_step, ne_gap_wide, ne_gap_most, ne_most_many, ne_most_first, ne_most_last, ne_most_start, ne_most_step, ne_most_wide, ne_most_gap, ne___init___many, ne___init___first, ne___init___last, ne___init___start, ne___init___step, ne___init___wide, ne___init___gap, ne___init___most, ne_begin_many, ne_begin_first, ne_begin_last, ne_begin_start, ne_begin_step, ne_begin_wide, ne_begin_gap, ne_begin_most, ne_follow_many, ne_follow_first, ne_follow_last, ne_follow_start, ne_follow_step, ne_follow_wide, ne_follow_gap, ne_follow_most, ne_let_by_many, ne_let_by_first, ne_let_by_last, ne_let_by_start, ne_let_by_step, ne_let_by_wide, ne_let_by_gap, ne_let_by_most, ne_words_many, ne_words_first, ne_words_last, ne_words_start, ne_words_step, ne_words_wide, ne_words_gap, ne_words_most, ne_twin_many, ne_twin_first, ne_twin_last, ne_twin_start, ne_twin_step, ne_twin_wide, ne_twin_gap, ne_twin_most, ne_place_of_many, ne_place_of_first, ne_place_of_last, ne_place_of_start, ne_place_of_step, ne_place_of_wide, ne_place_of_gap, ne_place_of_most, ne_stretch_of_many, ne_stretch_of_first, ne_stretch_of_last, ne_stretch_of_start, ne_stretch_of_step, ne_stretch_of_wide, ne_stretch_of_gap, ne_stretch_of_most, ne_gap_ahead_many, ne_gap_ahead_first, ne_gap_ahead_last, ne_gap_ahead_start, ne_gap_ahead_step, ne_gap_ahead_wide, ne_gap_ahead_gap, ne_gap_ahead_most, ne_leap_many, ne_leap_first, ne_leap_last, ne_leap_start, ne_leap_step, ne_leap_wide, ne_leap_gap, ne_leap_most]) <;> exact rfl)))
set_option hygiene false in
local macro_rules | `(tactic| walk_at "put") => `(tactic| ((conv => lhs; simp only [putF, reduceIte, ne_many_first, ne_many_last, ne_many_start, ne_many_step, ne_many_wide, ne_many_gap, ne_many_most, ne_first_many, ne_first_last, ne_first_start, ne_first_step, ne_first_wide, ne_first_gap, ne_first_most, ne_last_many, ne_last_first, ne_last_start, ne_last_step, ne_last_wide, ne_last_gap, ne_last_most, ne_start_many, ne_start_first, ne_start_last, ne_start_step, ne_start_wide, ne_start_gap, ne_start_most, ne_step_many, ne_step_first, ne_step_last, ne_step_start, ne_step_wide, ne_step_gap, ne_step_most, ne_wide_many, ne_wide_first, ne_wide_last, ne_wide_start, ne_wide_step, ne_wide_gap, ne_wide_most, ne_gap_many, ne_gap_first, ne_gap_last, ne_gap_start, ne_gap_step, ne_gap_wide, ne_gap_most, ne_most_many, ne_most_first, ne_most_last, ne_most_start, ne_most_step, ne_most_wide, ne_most_gap, ne___init___many, ne___init___first, ne___init___last, ne___init___start, ne___init___step, ne___init___wide, ne___init___gap, ne___init___most, ne_begin_many, ne_begin_first, ne_begin_last, ne_begin_start, ne_begin_step, ne_begin_wide, ne_begin_gap, ne_begin_most, ne_follow_many, ne_follow_first, ne_follow_last, ne_follow_start, ne_follow_step, ne_follow_wide, ne_follow_gap, ne_follow_most, ne_let_by_many, ne_let_by_first, ne_let_by_last, ne_let_by_start, ne_let_by_step, ne_let_by_wide, ne_let_by_gap, ne_let_by_most, ne_words_many, ne_words_first, ne_words_last, ne_words_start, ne_words_step, ne_words_wide, ne_words_gap, ne_words_most, ne_twin_many, ne_twin_first, ne_twin_last, ne_twin_start, ne_twin_step, ne_twin_wide, ne_twin_gap, ne_twin_most, ne_place_of_many, ne_place_of_first, ne_place_of_last, ne_place_of_start, ne_place_of_step, ne_place_of_wide, ne_place_of_gap, ne_place_of_most, ne_stretch_of_many, ne_stretch_of_first, ne_stretch_of_last, ne_stretch_of_start, ne_stretch_of_step, ne_stretch_of_wide, ne_stretch_of_gap, ne_stretch_of_most, ne_gap_ahead_many, ne_gap_ahead_first, ne_gap_ahead_last, ne_gap_ahead_start, ne_gap_ahead_step, ne_gap_ahead_wide, ne_gap_ahead_gap, ne_gap_ahead_most, ne_leap_many, ne_leap_first, ne_leap_last, ne_leap_start, ne_leap_step, ne_leap_wide, ne_leap_gap, ne_leap_most]) <;> exact rfl))
set_option genSizeOf false in
set_option genInjectivity false in
structure Ad where
  f_is_whole : Addr
  fd_is_whole : FuncData
  f_check_from : Addr
  fd_check_from : FuncData
  f_Rule___init__ : Addr
  fd_Rule___init__ : FuncData
  f_Once___init__ : Addr
  fd_Once___init__ : FuncData
  dT_Once___init__ : Addr
  f_Each___init__ : Addr
  fd_Each___init__ : FuncData
  dT_Each___init__ : Addr
  tk_Each___init___0 : Tok
  f_Behind___init__ : Addr
  fd_Behind___init__ : FuncData
  dT_Behind___init__ : Addr
  tk_Behind___init___0 : Tok
  f_Slowing___init__ : Addr
  fd_Slowing___init__ : FuncData
  dT_Slowing___init__ : Addr
  tk_Slowing___init___0 : Tok
  f__law_cell_at : Addr
  fd__law_cell_at : FuncData
  f__law_number : Addr
  fd__law_number : FuncData
  f__law_numbers : Addr
  fd__law_numbers : FuncData
  f__law_leasts : Addr
  fd__law_leasts : FuncData
  f__law_spoiled : Addr
  fd__law_spoiled : FuncData
  f__law_made : Addr
  fd__law_made : FuncData
  f__law_refused : Addr
  fd__law_refused : FuncData
  f_law : Addr
  fd_law : FuncData
  C_Rule : Addr
  C_Once : Addr
  C_Each : Addr
  C_Behind : Addr
  C_Slowing : Addr
  C_NoRow : Addr
  C_NoRule : Addr
  C_NoStretch : Addr
  C_NoTime : Addr
  C_NoWeight : Addr
  C_WakeError : Addr
structure Txt (K : PySem.W.Frag) (mg : Str → Option Value) (a : Ad) : Prop where
  F_is_whole : FunD K "is_whole" "is_whole" s_is_whole a.f_is_whole (.none) a.fd_is_whole
  kp_is_whole : PySem.W.keepIn K (.ref a.f_is_whole) = true
  mg_is_whole : mg "is_whole" = some (.ref a.f_is_whole)
  F_check_from : FunD K "check_from" "check_from" s_check_from a.f_check_from (.none) a.fd_check_from
  kp_check_from : PySem.W.keepIn K (.ref a.f_check_from) = true
  mg_check_from : mg "check_from" = some (.ref a.f_check_from)
  F_Rule___init__ : FunD K "__init__" "Rule.__init__" s_Rule___init__ a.f_Rule___init__ (.none) a.fd_Rule___init__
  kp_Rule___init__ : PySem.W.keepIn K (.ref a.f_Rule___init__) = true
  F_Once___init__ : FunD K "__init__" "Once.__init__" s_Once___init__ a.f_Once___init__ (.ref a.dT_Once___init__) a.fd_Once___init__
  kp_Once___init__ : PySem.W.keepIn K (.ref a.f_Once___init__) = true
  D_Once___init__ : DefT K a.dT_Once___init__ #[.none]
  F_Each___init__ : FunD K "__init__" "Each.__init__" s_Each___init__ a.f_Each___init__ (.ref a.dT_Each___init__) a.fd_Each___init__
  kp_Each___init__ : PySem.W.keepIn K (.ref a.f_Each___init__) = true
  D_Each___init__ : DefT K a.dT_Each___init__ #[(.int 0 a.tk_Each___init___0), .none]
  F_Behind___init__ : FunD K "__init__" "Behind.__init__" s_Behind___init__ a.f_Behind___init__ (.ref a.dT_Behind___init__) a.fd_Behind___init__
  kp_Behind___init__ : PySem.W.keepIn K (.ref a.f_Behind___init__) = true
  D_Behind___init__ : DefT K a.dT_Behind___init__ #[(.int 0 a.tk_Behind___init___0), .none]
  F_Slowing___init__ : FunD K "__init__" "Slowing.__init__" s_Slowing___init__ a.f_Slowing___init__ (.ref a.dT_Slowing___init__) a.fd_Slowing___init__
  kp_Slowing___init__ : PySem.W.keepIn K (.ref a.f_Slowing___init__) = true
  D_Slowing___init__ : DefT K a.dT_Slowing___init__ #[(.int 0 a.tk_Slowing___init___0), .none]
  F__law_cell_at : FunD K "_law_cell_at" "_law_cell_at" s__law_cell_at a.f__law_cell_at (.none) a.fd__law_cell_at
  kp__law_cell_at : PySem.W.keepIn K (.ref a.f__law_cell_at) = true
  mg__law_cell_at : mg "_law_cell_at" = some (.ref a.f__law_cell_at)
  F__law_number : FunD K "_law_number" "_law_number" s__law_number a.f__law_number (.none) a.fd__law_number
  kp__law_number : PySem.W.keepIn K (.ref a.f__law_number) = true
  mg__law_number : mg "_law_number" = some (.ref a.f__law_number)
  F__law_numbers : FunD K "_law_numbers" "_law_numbers" s__law_numbers a.f__law_numbers (.none) a.fd__law_numbers
  kp__law_numbers : PySem.W.keepIn K (.ref a.f__law_numbers) = true
  mg__law_numbers : mg "_law_numbers" = some (.ref a.f__law_numbers)
  F__law_leasts : FunD K "_law_leasts" "_law_leasts" s__law_leasts a.f__law_leasts (.none) a.fd__law_leasts
  kp__law_leasts : PySem.W.keepIn K (.ref a.f__law_leasts) = true
  mg__law_leasts : mg "_law_leasts" = some (.ref a.f__law_leasts)
  F__law_spoiled : FunD K "_law_spoiled" "_law_spoiled" s__law_spoiled a.f__law_spoiled (.none) a.fd__law_spoiled
  kp__law_spoiled : PySem.W.keepIn K (.ref a.f__law_spoiled) = true
  mg__law_spoiled : mg "_law_spoiled" = some (.ref a.f__law_spoiled)
  F__law_made : FunD K "_law_made" "_law_made" s__law_made a.f__law_made (.none) a.fd__law_made
  kp__law_made : PySem.W.keepIn K (.ref a.f__law_made) = true
  mg__law_made : mg "_law_made" = some (.ref a.f__law_made)
  F__law_refused : FunD K "_law_refused" "_law_refused" s__law_refused a.f__law_refused (.none) a.fd__law_refused
  kp__law_refused : PySem.W.keepIn K (.ref a.f__law_refused) = true
  mg__law_refused : mg "_law_refused" = some (.ref a.f__law_refused)
  F_law : FunD K "law" "law" s_law a.f_law (.none) a.fd_law
  kp_law : PySem.W.keepIn K (.ref a.f_law) = true
  mg_law : mg "law" = some (.ref a.f_law)
  mg_Rule : mg "Rule" = some (.ref a.C_Rule)
  cl_Rule : Cls K a.C_Rule
  M_Rule : Mk K a.C_Rule a.f_Rule___init__
  ty_Rule : TyCls K a.C_Rule
  is_Rule_Rule : PySem.W.kitOne K (.ref a.C_Rule) (.ref a.C_Rule) = some true
  mg_Once : mg "Once" = some (.ref a.C_Once)
  cl_Once : Cls K a.C_Once
  na_Once_many : NoAttr K a.C_Once "many"
  na_Once_first : NoAttr K a.C_Once "first"
  na_Once_last : NoAttr K a.C_Once "last"
  M_Once : Mk K a.C_Once a.f_Once___init__
  ty_Once : TyCls K a.C_Once
  is_Once_Rule : PySem.W.kitOne K (.ref a.C_Once) (.ref a.C_Rule) = some true
  mg_Each : mg "Each" = some (.ref a.C_Each)
  cl_Each : Cls K a.C_Each
  na_Each_many : NoAttr K a.C_Each "many"
  na_Each_start : NoAttr K a.C_Each "start"
  na_Each_step : NoAttr K a.C_Each "step"
  na_Each_wide : NoAttr K a.C_Each "wide"
  M_Each : Mk K a.C_Each a.f_Each___init__
  ty_Each : TyCls K a.C_Each
  is_Each_Rule : PySem.W.kitOne K (.ref a.C_Each) (.ref a.C_Rule) = some true
  mg_Behind : mg "Behind" = some (.ref a.C_Behind)
  cl_Behind : Cls K a.C_Behind
  na_Behind_many : NoAttr K a.C_Behind "many"
  na_Behind_start : NoAttr K a.C_Behind "start"
  na_Behind_gap : NoAttr K a.C_Behind "gap"
  na_Behind_wide : NoAttr K a.C_Behind "wide"
  M_Behind : Mk K a.C_Behind a.f_Behind___init__
  ty_Behind : TyCls K a.C_Behind
  is_Behind_Rule : PySem.W.kitOne K (.ref a.C_Behind) (.ref a.C_Rule) = some true
  mg_Slowing : mg "Slowing" = some (.ref a.C_Slowing)
  cl_Slowing : Cls K a.C_Slowing
  na_Slowing_many : NoAttr K a.C_Slowing "many"
  na_Slowing_start : NoAttr K a.C_Slowing "start"
  na_Slowing_gap : NoAttr K a.C_Slowing "gap"
  na_Slowing_wide : NoAttr K a.C_Slowing "wide"
  na_Slowing_most : NoAttr K a.C_Slowing "most"
  M_Slowing : Mk K a.C_Slowing a.f_Slowing___init__
  ty_Slowing : TyCls K a.C_Slowing
  is_Slowing_Rule : PySem.W.kitOne K (.ref a.C_Slowing) (.ref a.C_Rule) = some true
  mg_NoRow : mg "NoRow" = some (.ref a.C_NoRow)
  x_NoRow : ExcK K a.C_NoRow
  mg_NoRule : mg "NoRule" = some (.ref a.C_NoRule)
  x_NoRule : ExcK K a.C_NoRule
  mg_NoStretch : mg "NoStretch" = some (.ref a.C_NoStretch)
  x_NoStretch : ExcK K a.C_NoStretch
  mg_NoTime : mg "NoTime" = some (.ref a.C_NoTime)
  x_NoTime : ExcK K a.C_NoTime
  mg_NoWeight : mg "NoWeight" = some (.ref a.C_NoWeight)
  x_NoWeight : ExcK K a.C_NoWeight
  mg_WakeError : mg "WakeError" = some (.ref a.C_WakeError)
  x_WakeError : ExcK K a.C_WakeError
  te_NoRule : TyE K a.C_NoRule
  iv_NoRule : PySem.W.kitOne K (.ref a.C_NoRule) (.type "ValueError") = some true
  is_NoRule_NoRow : PySem.W.kitOne K (.ref a.C_NoRule) (.ref a.C_NoRow) = some false
  hit_NoRule_NoRule : HitE K a.C_NoRule a.C_NoRule
  is_NoRule_NoRule : PySem.W.kitOne K (.ref a.C_NoRule) (.ref a.C_NoRule) = some true
  is_NoRule_NoStretch : PySem.W.kitOne K (.ref a.C_NoRule) (.ref a.C_NoStretch) = some false
  is_NoRule_NoTime : PySem.W.kitOne K (.ref a.C_NoRule) (.ref a.C_NoTime) = some false
  is_NoRule_NoWeight : PySem.W.kitOne K (.ref a.C_NoRule) (.ref a.C_NoWeight) = some false
  hit_NoRule_WakeError : HitE K a.C_NoRule a.C_WakeError
  is_NoRule_WakeError : PySem.W.kitOne K (.ref a.C_NoRule) (.ref a.C_WakeError) = some true
  B_Behind___init__ : BaseM K a.C_Behind "__init__" a.f_Behind___init__
  B_Rule___init__ : BaseM K a.C_Rule "__init__" a.f_Rule___init__
  no_ValueError : mg "ValueError" = none
  no_bool : mg "bool" = none
  no_int : mg "int" = none
  no_isinstance : mg "isinstance" = none
  no_len : mg "len" = none
  no_str : mg "str" = none
theorem txt_mk {K : PySem.W.Frag} {h : Heap} {mg : Str → Option Value} {f_is_whole f_check_from f_Rule___init__ f_Once___init__ dT_Once___init__ f_Each___init__ dT_Each___init__ f_Behind___init__ dT_Behind___init__ f_Slowing___init__ dT_Slowing___init__ f__law_cell_at f__law_number f__law_numbers f__law_leasts f__law_spoiled f__law_made f__law_refused f_law C_Rule C_Once C_Each C_Behind C_Slowing C_NoRow C_NoRule C_NoStretch C_NoTime C_NoWeight C_WakeError : Addr} {tk_Each___init___0 tk_Behind___init___0 tk_Slowing___init___0 : Tok} {od_is_whole an_is_whole : Option Addr} {sl_is_whole : Array (Option Value)} {oc_is_whole kV_is_whole dc_is_whole pm_is_whole cd_is_whole ct_is_whole : Value} {od_check_from an_check_from : Option Addr} {sl_check_from : Array (Option Value)} {oc_check_from kV_check_from dc_check_from pm_check_from cd_check_from ct_check_from : Value} {od_Rule___init__ an_Rule___init__ : Option Addr} {sl_Rule___init__ : Array (Option Value)} {oc_Rule___init__ kV_Rule___init__ dc_Rule___init__ pm_Rule___init__ cd_Rule___init__ ct_Rule___init__ : Value} {od_Once___init__ an_Once___init__ : Option Addr} {sl_Once___init__ : Array (Option Value)} {oc_Once___init__ kV_Once___init__ dc_Once___init__ pm_Once___init__ cd_Once___init__ ct_Once___init__ : Value} {dn_Once___init__ : Nat} {dd_Once___init__ : Option Addr} {ds_Once___init__ : Array (Option Value)} {dc2_Once___init__ : Value} {od_Each___init__ an_Each___init__ : Option Addr} {sl_Each___init__ : Array (Option Value)} {oc_Each___init__ kV_Each___init__ dc_Each___init__ pm_Each___init__ cd_Each___init__ ct_Each___init__ : Value} {dn_Each___init__ : Nat} {dd_Each___init__ : Option Addr} {ds_Each___init__ : Array (Option Value)} {dc2_Each___init__ : Value} {od_Behind___init__ an_Behind___init__ : Option Addr} {sl_Behind___init__ : Array (Option Value)} {oc_Behind___init__ kV_Behind___init__ dc_Behind___init__ pm_Behind___init__ cd_Behind___init__ ct_Behind___init__ : Value} {dn_Behind___init__ : Nat} {dd_Behind___init__ : Option Addr} {ds_Behind___init__ : Array (Option Value)} {dc2_Behind___init__ : Value} {od_Slowing___init__ an_Slowing___init__ : Option Addr} {sl_Slowing___init__ : Array (Option Value)} {oc_Slowing___init__ kV_Slowing___init__ dc_Slowing___init__ pm_Slowing___init__ cd_Slowing___init__ ct_Slowing___init__ : Value} {dn_Slowing___init__ : Nat} {dd_Slowing___init__ : Option Addr} {ds_Slowing___init__ : Array (Option Value)} {dc2_Slowing___init__ : Value} {od__law_cell_at an__law_cell_at : Option Addr} {sl__law_cell_at : Array (Option Value)} {oc__law_cell_at kV__law_cell_at dc__law_cell_at pm__law_cell_at cd__law_cell_at ct__law_cell_at : Value} {od__law_number an__law_number : Option Addr} {sl__law_number : Array (Option Value)} {oc__law_number kV__law_number dc__law_number pm__law_number cd__law_number ct__law_number : Value} {od__law_numbers an__law_numbers : Option Addr} {sl__law_numbers : Array (Option Value)} {oc__law_numbers kV__law_numbers dc__law_numbers pm__law_numbers cd__law_numbers ct__law_numbers : Value} {od__law_leasts an__law_leasts : Option Addr} {sl__law_leasts : Array (Option Value)} {oc__law_leasts kV__law_leasts dc__law_leasts pm__law_leasts cd__law_leasts ct__law_leasts : Value} {od__law_spoiled an__law_spoiled : Option Addr} {sl__law_spoiled : Array (Option Value)} {oc__law_spoiled kV__law_spoiled dc__law_spoiled pm__law_spoiled cd__law_spoiled ct__law_spoiled : Value} {od__law_made an__law_made : Option Addr} {sl__law_made : Array (Option Value)} {oc__law_made kV__law_made dc__law_made pm__law_made cd__law_made ct__law_made : Value} {od__law_refused an__law_refused : Option Addr} {sl__law_refused : Array (Option Value)} {oc__law_refused kV__law_refused dc__law_refused pm__law_refused cd__law_refused ct__law_refused : Value} {od_law an_law : Option Addr} {sl_law : Array (Option Value)} {oc_law kV_law dc_law pm_law cd_law ct_law : Value} (X : K.In h) (G : h.Ns mainGlobals mg)
    (aC_Rule : PySem.W.nsIn K mainGlobals "Rule" = some (some (.ref C_Rule)))
    (aC_Once : PySem.W.nsIn K mainGlobals "Once" = some (some (.ref C_Once)))
    (aC_Each : PySem.W.nsIn K mainGlobals "Each" = some (some (.ref C_Each)))
    (aC_Behind : PySem.W.nsIn K mainGlobals "Behind" = some (some (.ref C_Behind)))
    (aC_Slowing : PySem.W.nsIn K mainGlobals "Slowing" = some (some (.ref C_Slowing)))
    (aC_NoRow : PySem.W.nsIn K mainGlobals "NoRow" = some (some (.ref C_NoRow)))
    (aC_NoRule : PySem.W.nsIn K mainGlobals "NoRule" = some (some (.ref C_NoRule)))
    (aC_NoStretch : PySem.W.nsIn K mainGlobals "NoStretch" = some (some (.ref C_NoStretch)))
    (aC_NoTime : PySem.W.nsIn K mainGlobals "NoTime" = some (some (.ref C_NoTime)))
    (aC_NoWeight : PySem.W.nsIn K mainGlobals "NoWeight" = some (some (.ref C_NoWeight)))
    (aC_WakeError : PySem.W.nsIn K mainGlobals "WakeError" = some (some (.ref C_WakeError)))
    (hgg : PySem.W.specialIn K (.builtin "object.__class__") "__get__" = some (some (.builtin "getset_descriptor.__get__")))
    (htt : PySem.W.takesIn K (.builtin "object.__class__") = some true)
    (a_is_whole : PySem.W.nsIn K mainGlobals "is_whole" = some (some (.ref f_is_whole)))
    (l_is_whole : K.lookup f_is_whole = some ⟨oc_is_whole, od_is_whole, .func (PySem.W.fnOf "is_whole" "is_whole" (defArgs s_is_whole) (defBody s_is_whole) (defScope s_is_whole) (.none) kV_is_whole dc_is_whole pm_is_whole an_is_whole cd_is_whole ct_is_whole), sl_is_whole⟩)
    (c_is_whole : PySem.W.codeIn K cd_is_whole "is_whole" = true)
    (k_is_whole : PySem.W.keepIn K (.ref f_is_whole) = true)
    (a_check_from : PySem.W.nsIn K mainGlobals "check_from" = some (some (.ref f_check_from)))
    (l_check_from : K.lookup f_check_from = some ⟨oc_check_from, od_check_from, .func (PySem.W.fnOf "check_from" "check_from" (defArgs s_check_from) (defBody s_check_from) (defScope s_check_from) (.none) kV_check_from dc_check_from pm_check_from an_check_from cd_check_from ct_check_from), sl_check_from⟩)
    (c_check_from : PySem.W.codeIn K cd_check_from "check_from" = true)
    (k_check_from : PySem.W.keepIn K (.ref f_check_from) = true)
    (a_Rule___init__ : PySem.W.findIn K (.ref C_Rule) "__init__" = some (some (.ref f_Rule___init__)))
    (l_Rule___init__ : K.lookup f_Rule___init__ = some ⟨oc_Rule___init__, od_Rule___init__, .func (PySem.W.fnOf "__init__" "Rule.__init__" (defArgs s_Rule___init__) (defBody s_Rule___init__) (defScope s_Rule___init__) (.none) kV_Rule___init__ dc_Rule___init__ pm_Rule___init__ an_Rule___init__ cd_Rule___init__ ct_Rule___init__), sl_Rule___init__⟩)
    (c_Rule___init__ : PySem.W.codeIn K cd_Rule___init__ "Rule.__init__" = true)
    (k_Rule___init__ : PySem.W.keepIn K (.ref f_Rule___init__) = true)
    (i_Rule___init__ : PySem.W.isFn K (.ref f_Rule___init__) = true)
    (a_Once___init__ : PySem.W.findIn K (.ref C_Once) "__init__" = some (some (.ref f_Once___init__)))
    (l_Once___init__ : K.lookup f_Once___init__ = some ⟨oc_Once___init__, od_Once___init__, .func (PySem.W.fnOf "__init__" "Once.__init__" (defArgs s_Once___init__) (defBody s_Once___init__) (defScope s_Once___init__) (.ref dT_Once___init__) kV_Once___init__ dc_Once___init__ pm_Once___init__ an_Once___init__ cd_Once___init__ ct_Once___init__), sl_Once___init__⟩)
    (c_Once___init__ : PySem.W.codeIn K cd_Once___init__ "Once.__init__" = true)
    (k_Once___init__ : PySem.W.keepIn K (.ref f_Once___init__) = true)
    (i_Once___init__ : PySem.W.isFn K (.ref f_Once___init__) = true)
    (t_Once___init__ : K.lookup dT_Once___init__ = some ⟨dc2_Once___init__, dd_Once___init__, .seq #[.none] dn_Once___init__, ds_Once___init__⟩)
    (a_Each___init__ : PySem.W.findIn K (.ref C_Each) "__init__" = some (some (.ref f_Each___init__)))
    (l_Each___init__ : K.lookup f_Each___init__ = some ⟨oc_Each___init__, od_Each___init__, .func (PySem.W.fnOf "__init__" "Each.__init__" (defArgs s_Each___init__) (defBody s_Each___init__) (defScope s_Each___init__) (.ref dT_Each___init__) kV_Each___init__ dc_Each___init__ pm_Each___init__ an_Each___init__ cd_Each___init__ ct_Each___init__), sl_Each___init__⟩)
    (c_Each___init__ : PySem.W.codeIn K cd_Each___init__ "Each.__init__" = true)
    (k_Each___init__ : PySem.W.keepIn K (.ref f_Each___init__) = true)
    (i_Each___init__ : PySem.W.isFn K (.ref f_Each___init__) = true)
    (t_Each___init__ : K.lookup dT_Each___init__ = some ⟨dc2_Each___init__, dd_Each___init__, .seq #[(.int 0 tk_Each___init___0), .none] dn_Each___init__, ds_Each___init__⟩)
    (a_Behind___init__ : PySem.W.findIn K (.ref C_Behind) "__init__" = some (some (.ref f_Behind___init__)))
    (l_Behind___init__ : K.lookup f_Behind___init__ = some ⟨oc_Behind___init__, od_Behind___init__, .func (PySem.W.fnOf "__init__" "Behind.__init__" (defArgs s_Behind___init__) (defBody s_Behind___init__) (defScope s_Behind___init__) (.ref dT_Behind___init__) kV_Behind___init__ dc_Behind___init__ pm_Behind___init__ an_Behind___init__ cd_Behind___init__ ct_Behind___init__), sl_Behind___init__⟩)
    (c_Behind___init__ : PySem.W.codeIn K cd_Behind___init__ "Behind.__init__" = true)
    (k_Behind___init__ : PySem.W.keepIn K (.ref f_Behind___init__) = true)
    (i_Behind___init__ : PySem.W.isFn K (.ref f_Behind___init__) = true)
    (t_Behind___init__ : K.lookup dT_Behind___init__ = some ⟨dc2_Behind___init__, dd_Behind___init__, .seq #[(.int 0 tk_Behind___init___0), .none] dn_Behind___init__, ds_Behind___init__⟩)
    (a_Slowing___init__ : PySem.W.findIn K (.ref C_Slowing) "__init__" = some (some (.ref f_Slowing___init__)))
    (l_Slowing___init__ : K.lookup f_Slowing___init__ = some ⟨oc_Slowing___init__, od_Slowing___init__, .func (PySem.W.fnOf "__init__" "Slowing.__init__" (defArgs s_Slowing___init__) (defBody s_Slowing___init__) (defScope s_Slowing___init__) (.ref dT_Slowing___init__) kV_Slowing___init__ dc_Slowing___init__ pm_Slowing___init__ an_Slowing___init__ cd_Slowing___init__ ct_Slowing___init__), sl_Slowing___init__⟩)
    (c_Slowing___init__ : PySem.W.codeIn K cd_Slowing___init__ "Slowing.__init__" = true)
    (k_Slowing___init__ : PySem.W.keepIn K (.ref f_Slowing___init__) = true)
    (i_Slowing___init__ : PySem.W.isFn K (.ref f_Slowing___init__) = true)
    (t_Slowing___init__ : K.lookup dT_Slowing___init__ = some ⟨dc2_Slowing___init__, dd_Slowing___init__, .seq #[(.int 0 tk_Slowing___init___0), .none] dn_Slowing___init__, ds_Slowing___init__⟩)
    (a__law_cell_at : PySem.W.nsIn K mainGlobals "_law_cell_at" = some (some (.ref f__law_cell_at)))
    (l__law_cell_at : K.lookup f__law_cell_at = some ⟨oc__law_cell_at, od__law_cell_at, .func (PySem.W.fnOf "_law_cell_at" "_law_cell_at" (defArgs s__law_cell_at) (defBody s__law_cell_at) (defScope s__law_cell_at) (.none) kV__law_cell_at dc__law_cell_at pm__law_cell_at an__law_cell_at cd__law_cell_at ct__law_cell_at), sl__law_cell_at⟩)
    (c__law_cell_at : PySem.W.codeIn K cd__law_cell_at "_law_cell_at" = true)
    (k__law_cell_at : PySem.W.keepIn K (.ref f__law_cell_at) = true)
    (a__law_number : PySem.W.nsIn K mainGlobals "_law_number" = some (some (.ref f__law_number)))
    (l__law_number : K.lookup f__law_number = some ⟨oc__law_number, od__law_number, .func (PySem.W.fnOf "_law_number" "_law_number" (defArgs s__law_number) (defBody s__law_number) (defScope s__law_number) (.none) kV__law_number dc__law_number pm__law_number an__law_number cd__law_number ct__law_number), sl__law_number⟩)
    (c__law_number : PySem.W.codeIn K cd__law_number "_law_number" = true)
    (k__law_number : PySem.W.keepIn K (.ref f__law_number) = true)
    (a__law_numbers : PySem.W.nsIn K mainGlobals "_law_numbers" = some (some (.ref f__law_numbers)))
    (l__law_numbers : K.lookup f__law_numbers = some ⟨oc__law_numbers, od__law_numbers, .func (PySem.W.fnOf "_law_numbers" "_law_numbers" (defArgs s__law_numbers) (defBody s__law_numbers) (defScope s__law_numbers) (.none) kV__law_numbers dc__law_numbers pm__law_numbers an__law_numbers cd__law_numbers ct__law_numbers), sl__law_numbers⟩)
    (c__law_numbers : PySem.W.codeIn K cd__law_numbers "_law_numbers" = true)
    (k__law_numbers : PySem.W.keepIn K (.ref f__law_numbers) = true)
    (a__law_leasts : PySem.W.nsIn K mainGlobals "_law_leasts" = some (some (.ref f__law_leasts)))
    (l__law_leasts : K.lookup f__law_leasts = some ⟨oc__law_leasts, od__law_leasts, .func (PySem.W.fnOf "_law_leasts" "_law_leasts" (defArgs s__law_leasts) (defBody s__law_leasts) (defScope s__law_leasts) (.none) kV__law_leasts dc__law_leasts pm__law_leasts an__law_leasts cd__law_leasts ct__law_leasts), sl__law_leasts⟩)
    (c__law_leasts : PySem.W.codeIn K cd__law_leasts "_law_leasts" = true)
    (k__law_leasts : PySem.W.keepIn K (.ref f__law_leasts) = true)
    (a__law_spoiled : PySem.W.nsIn K mainGlobals "_law_spoiled" = some (some (.ref f__law_spoiled)))
    (l__law_spoiled : K.lookup f__law_spoiled = some ⟨oc__law_spoiled, od__law_spoiled, .func (PySem.W.fnOf "_law_spoiled" "_law_spoiled" (defArgs s__law_spoiled) (defBody s__law_spoiled) (defScope s__law_spoiled) (.none) kV__law_spoiled dc__law_spoiled pm__law_spoiled an__law_spoiled cd__law_spoiled ct__law_spoiled), sl__law_spoiled⟩)
    (c__law_spoiled : PySem.W.codeIn K cd__law_spoiled "_law_spoiled" = true)
    (k__law_spoiled : PySem.W.keepIn K (.ref f__law_spoiled) = true)
    (a__law_made : PySem.W.nsIn K mainGlobals "_law_made" = some (some (.ref f__law_made)))
    (l__law_made : K.lookup f__law_made = some ⟨oc__law_made, od__law_made, .func (PySem.W.fnOf "_law_made" "_law_made" (defArgs s__law_made) (defBody s__law_made) (defScope s__law_made) (.none) kV__law_made dc__law_made pm__law_made an__law_made cd__law_made ct__law_made), sl__law_made⟩)
    (c__law_made : PySem.W.codeIn K cd__law_made "_law_made" = true)
    (k__law_made : PySem.W.keepIn K (.ref f__law_made) = true)
    (a__law_refused : PySem.W.nsIn K mainGlobals "_law_refused" = some (some (.ref f__law_refused)))
    (l__law_refused : K.lookup f__law_refused = some ⟨oc__law_refused, od__law_refused, .func (PySem.W.fnOf "_law_refused" "_law_refused" (defArgs s__law_refused) (defBody s__law_refused) (defScope s__law_refused) (.none) kV__law_refused dc__law_refused pm__law_refused an__law_refused cd__law_refused ct__law_refused), sl__law_refused⟩)
    (c__law_refused : PySem.W.codeIn K cd__law_refused "_law_refused" = true)
    (k__law_refused : PySem.W.keepIn K (.ref f__law_refused) = true)
    (a_law : PySem.W.nsIn K mainGlobals "law" = some (some (.ref f_law)))
    (l_law : K.lookup f_law = some ⟨oc_law, od_law, .func (PySem.W.fnOf "law" "law" (defArgs s_law) (defBody s_law) (defScope s_law) (.none) kV_law dc_law pm_law an_law cd_law ct_law), sl_law⟩)
    (c_law : PySem.W.codeIn K cd_law "law" = true)
    (k_law : PySem.W.keepIn K (.ref f_law) = true)
    (pg_Rule : PySem.W.plainGet K C_Rule Str.empty = true)
    (hd_Rule : PySem.W.hasDictIn K C_Rule = true)
    (po_Rule : PySem.W.plainOver K C_Rule = true)
    (sa_Rule : PySem.W.findIn K (.ref C_Rule) "__setattr__" = some (some (.builtin "object.__setattr__")))
    (mk_Rule : PySem.W.makesIn K C_Rule = true)
    (kc_Rule : PySem.W.keepIn K (.ref C_Rule) = true)
    (t1_Rule : PySem.W.findIn K (.ref C_Rule) "__class__" = some (some (.builtin "object.__class__")))
    (t2_Rule : PySem.W.mroIn K C_Rule (.type "object") = some true)
    (t3_Rule : PySem.W.typeIn K (.ref C_Rule) = some (.type "type"))
    (is_Rule_Rule : PySem.W.mroIn K C_Rule (.ref C_Rule) = some true)
    (pg_Once : PySem.W.plainGet K C_Once Str.empty = true)
    (hd_Once : PySem.W.hasDictIn K C_Once = true)
    (po_Once : PySem.W.plainOver K C_Once = true)
    (sa_Once : PySem.W.findIn K (.ref C_Once) "__setattr__" = some (some (.builtin "object.__setattr__")))
    (na_Once_many : PySem.W.findIn K (.ref C_Once) "many" = some none)
    (na_Once_first : PySem.W.findIn K (.ref C_Once) "first" = some none)
    (na_Once_last : PySem.W.findIn K (.ref C_Once) "last" = some none)
    (mk_Once : PySem.W.makesIn K C_Once = true)
    (kc_Once : PySem.W.keepIn K (.ref C_Once) = true)
    (t1_Once : PySem.W.findIn K (.ref C_Once) "__class__" = some (some (.builtin "object.__class__")))
    (t2_Once : PySem.W.mroIn K C_Once (.type "object") = some true)
    (t3_Once : PySem.W.typeIn K (.ref C_Once) = some (.type "type"))
    (is_Once_Rule : PySem.W.mroIn K C_Once (.ref C_Rule) = some true)
    (pg_Each : PySem.W.plainGet K C_Each Str.empty = true)
    (hd_Each : PySem.W.hasDictIn K C_Each = true)
    (po_Each : PySem.W.plainOver K C_Each = true)
    (sa_Each : PySem.W.findIn K (.ref C_Each) "__setattr__" = some (some (.builtin "object.__setattr__")))
    (na_Each_many : PySem.W.findIn K (.ref C_Each) "many" = some none)
    (na_Each_start : PySem.W.findIn K (.ref C_Each) "start" = some none)
    (na_Each_step : PySem.W.findIn K (.ref C_Each) "step" = some none)
    (na_Each_wide : PySem.W.findIn K (.ref C_Each) "wide" = some none)
    (mk_Each : PySem.W.makesIn K C_Each = true)
    (kc_Each : PySem.W.keepIn K (.ref C_Each) = true)
    (t1_Each : PySem.W.findIn K (.ref C_Each) "__class__" = some (some (.builtin "object.__class__")))
    (t2_Each : PySem.W.mroIn K C_Each (.type "object") = some true)
    (t3_Each : PySem.W.typeIn K (.ref C_Each) = some (.type "type"))
    (is_Each_Rule : PySem.W.mroIn K C_Each (.ref C_Rule) = some true)
    (pg_Behind : PySem.W.plainGet K C_Behind Str.empty = true)
    (hd_Behind : PySem.W.hasDictIn K C_Behind = true)
    (po_Behind : PySem.W.plainOver K C_Behind = true)
    (sa_Behind : PySem.W.findIn K (.ref C_Behind) "__setattr__" = some (some (.builtin "object.__setattr__")))
    (na_Behind_many : PySem.W.findIn K (.ref C_Behind) "many" = some none)
    (na_Behind_start : PySem.W.findIn K (.ref C_Behind) "start" = some none)
    (na_Behind_gap : PySem.W.findIn K (.ref C_Behind) "gap" = some none)
    (na_Behind_wide : PySem.W.findIn K (.ref C_Behind) "wide" = some none)
    (mk_Behind : PySem.W.makesIn K C_Behind = true)
    (kc_Behind : PySem.W.keepIn K (.ref C_Behind) = true)
    (t1_Behind : PySem.W.findIn K (.ref C_Behind) "__class__" = some (some (.builtin "object.__class__")))
    (t2_Behind : PySem.W.mroIn K C_Behind (.type "object") = some true)
    (t3_Behind : PySem.W.typeIn K (.ref C_Behind) = some (.type "type"))
    (is_Behind_Rule : PySem.W.mroIn K C_Behind (.ref C_Rule) = some true)
    (pg_Slowing : PySem.W.plainGet K C_Slowing Str.empty = true)
    (hd_Slowing : PySem.W.hasDictIn K C_Slowing = true)
    (po_Slowing : PySem.W.plainOver K C_Slowing = true)
    (sa_Slowing : PySem.W.findIn K (.ref C_Slowing) "__setattr__" = some (some (.builtin "object.__setattr__")))
    (na_Slowing_many : PySem.W.findIn K (.ref C_Slowing) "many" = some none)
    (na_Slowing_start : PySem.W.findIn K (.ref C_Slowing) "start" = some none)
    (na_Slowing_gap : PySem.W.findIn K (.ref C_Slowing) "gap" = some none)
    (na_Slowing_wide : PySem.W.findIn K (.ref C_Slowing) "wide" = some none)
    (na_Slowing_most : PySem.W.findIn K (.ref C_Slowing) "most" = some none)
    (mk_Slowing : PySem.W.makesIn K C_Slowing = true)
    (kc_Slowing : PySem.W.keepIn K (.ref C_Slowing) = true)
    (t1_Slowing : PySem.W.findIn K (.ref C_Slowing) "__class__" = some (some (.builtin "object.__class__")))
    (t2_Slowing : PySem.W.mroIn K C_Slowing (.type "object") = some true)
    (t3_Slowing : PySem.W.typeIn K (.ref C_Slowing) = some (.type "type"))
    (is_Slowing_Rule : PySem.W.mroIn K C_Slowing (.ref C_Rule) = some true)
    (x_NoRow : PySem.W.excIn K C_NoRow [.type "ValueError", .type "Exception", .type "BaseException", .type "object"] "ValueError.__new__" = true)
    (t2_NoRow : PySem.W.mroIn K C_NoRow (.type "object") = some true)
    (t3_NoRow : PySem.W.typeIn K (.ref C_NoRow) = some (.type "type"))
    (x_NoRule : PySem.W.excIn K C_NoRule [.type "ValueError", .type "Exception", .type "BaseException", .type "object"] "ValueError.__new__" = true)
    (t2_NoRule : PySem.W.mroIn K C_NoRule (.type "object") = some true)
    (t3_NoRule : PySem.W.typeIn K (.ref C_NoRule) = some (.type "type"))
    (x_NoStretch : PySem.W.excIn K C_NoStretch [.type "ValueError", .type "Exception", .type "BaseException", .type "object"] "ValueError.__new__" = true)
    (t2_NoStretch : PySem.W.mroIn K C_NoStretch (.type "object") = some true)
    (t3_NoStretch : PySem.W.typeIn K (.ref C_NoStretch) = some (.type "type"))
    (x_NoTime : PySem.W.excIn K C_NoTime [.type "ValueError", .type "Exception", .type "BaseException", .type "object"] "ValueError.__new__" = true)
    (t2_NoTime : PySem.W.mroIn K C_NoTime (.type "object") = some true)
    (t3_NoTime : PySem.W.typeIn K (.ref C_NoTime) = some (.type "type"))
    (x_NoWeight : PySem.W.excIn K C_NoWeight [.type "ValueError", .type "Exception", .type "BaseException", .type "object"] "ValueError.__new__" = true)
    (t2_NoWeight : PySem.W.mroIn K C_NoWeight (.type "object") = some true)
    (t3_NoWeight : PySem.W.typeIn K (.ref C_NoWeight) = some (.type "type"))
    (x_WakeError : PySem.W.excIn K C_WakeError [.type "ValueError", .type "Exception", .type "BaseException", .type "object"] "ValueError.__new__" = true)
    (t2_WakeError : PySem.W.mroIn K C_WakeError (.type "object") = some true)
    (t3_WakeError : PySem.W.typeIn K (.ref C_WakeError) = some (.type "type"))
    (ga_NoRule : PySem.W.findIn K (.ref C_NoRule) "__getattribute__" = some (some (.builtin "BaseException.__getattribute__")))
    (gn_NoRule : PySem.W.findIn K (.ref C_NoRule) "__getattr__" = some none)
    (mb_NoRule : PySem.W.mroIn K C_NoRule (.type "BaseException") = some true)
    (hd_NoRule : PySem.W.hasDictIn K C_NoRule = true)
    (t1_NoRule : PySem.W.findIn K (.ref C_NoRule) "__class__" = some (some (.builtin "object.__class__")))
    (vv_NoRule : PySem.W.mroIn K C_NoRule (.type "ValueError") = some true)
    (is_NoRule_NoRow : PySem.W.mroIn K C_NoRule (.ref C_NoRow) = some false)
    (nq_NoRule_NoRow : (C_NoRule == C_NoRow) = false)
    (is_NoRule_NoRule : PySem.W.mroIn K C_NoRule (.ref C_NoRule) = some true)
    (is_NoRule_NoStretch : PySem.W.mroIn K C_NoRule (.ref C_NoStretch) = some false)
    (nq_NoRule_NoStretch : (C_NoRule == C_NoStretch) = false)
    (is_NoRule_NoTime : PySem.W.mroIn K C_NoRule (.ref C_NoTime) = some false)
    (nq_NoRule_NoTime : (C_NoRule == C_NoTime) = false)
    (is_NoRule_NoWeight : PySem.W.mroIn K C_NoRule (.ref C_NoWeight) = some false)
    (nq_NoRule_NoWeight : (C_NoRule == C_NoWeight) = false)
    (is_NoRule_WakeError : PySem.W.mroIn K C_NoRule (.ref C_WakeError) = some true)
    (b1_Behind___init__ : PySem.W.specialIn K (.ref C_Behind) "__getattribute__" = some (some (.builtin "type.__getattribute__")))
    (b2_Behind___init__ : PySem.W.readsIn K C_Behind (.type "type") = true)
    (b3_Behind___init__ : PySem.W.findCls K (.ref C_Behind) (.type "type") "__init__" = some (.val (.ref f_Behind___init__)))
    (b1_Rule___init__ : PySem.W.specialIn K (.ref C_Rule) "__getattribute__" = some (some (.builtin "type.__getattribute__")))
    (b2_Rule___init__ : PySem.W.readsIn K C_Rule (.type "type") = true)
    (b3_Rule___init__ : PySem.W.findCls K (.ref C_Rule) (.type "type") "__init__" = some (.val (.ref f_Rule___init__)))
    (no_ValueError : PySem.W.nsIn K mainGlobals "ValueError" = some none)
    (no_bool : PySem.W.nsIn K mainGlobals "bool" = some none)
    (no_int : PySem.W.nsIn K mainGlobals "int" = some none)
    (no_isinstance : PySem.W.nsIn K mainGlobals "isinstance" = some none)
    (no_len : PySem.W.nsIn K mainGlobals "len" = some none)
    (no_str : PySem.W.nsIn K mainGlobals "str" = some none)
    : ∃ a : Ad, a.f_law = a.f_law ∧ Txt K mg a :=
  ⟨⟨f_is_whole, _, f_check_from, _, f_Rule___init__, _, f_Once___init__, _, dT_Once___init__, f_Each___init__, _, dT_Each___init__, tk_Each___init___0, f_Behind___init__, _, dT_Behind___init__, tk_Behind___init___0, f_Slowing___init__, _, dT_Slowing___init__, tk_Slowing___init___0, f__law_cell_at, _, f__law_number, _, f__law_numbers, _, f__law_leasts, _, f__law_spoiled, _, f__law_made, _, f__law_refused, _, f_law, _, C_Rule, C_Once, C_Each, C_Behind, C_Slowing, C_NoRow, C_NoRule, C_NoStretch, C_NoTime, C_NoWeight, C_WakeError⟩, rfl, {
    F_is_whole := funD_mk l_is_whole c_is_whole,
    kp_is_whole := k_is_whole,
    mg_is_whole := PySem.W.mg_of X G a_is_whole,
    F_check_from := funD_mk l_check_from c_check_from,
    kp_check_from := k_check_from,
    mg_check_from := PySem.W.mg_of X G a_check_from,
    F_Rule___init__ := funD_mk l_Rule___init__ c_Rule___init__,
    kp_Rule___init__ := k_Rule___init__,
    F_Once___init__ := funD_mk l_Once___init__ c_Once___init__,
    kp_Once___init__ := k_Once___init__,
    D_Once___init__ := ⟨⟨_, _, t_Once___init__, rfl⟩⟩,
    F_Each___init__ := funD_mk l_Each___init__ c_Each___init__,
    kp_Each___init__ := k_Each___init__,
    D_Each___init__ := ⟨⟨_, _, t_Each___init__, rfl⟩⟩,
    F_Behind___init__ := funD_mk l_Behind___init__ c_Behind___init__,
    kp_Behind___init__ := k_Behind___init__,
    D_Behind___init__ := ⟨⟨_, _, t_Behind___init__, rfl⟩⟩,
    F_Slowing___init__ := funD_mk l_Slowing___init__ c_Slowing___init__,
    kp_Slowing___init__ := k_Slowing___init__,
    D_Slowing___init__ := ⟨⟨_, _, t_Slowing___init__, rfl⟩⟩,
    F__law_cell_at := funD_mk l__law_cell_at c__law_cell_at,
    kp__law_cell_at := k__law_cell_at,
    mg__law_cell_at := PySem.W.mg_of X G a__law_cell_at,
    F__law_number := funD_mk l__law_number c__law_number,
    kp__law_number := k__law_number,
    mg__law_number := PySem.W.mg_of X G a__law_number,
    F__law_numbers := funD_mk l__law_numbers c__law_numbers,
    kp__law_numbers := k__law_numbers,
    mg__law_numbers := PySem.W.mg_of X G a__law_numbers,
    F__law_leasts := funD_mk l__law_leasts c__law_leasts,
    kp__law_leasts := k__law_leasts,
    mg__law_leasts := PySem.W.mg_of X G a__law_leasts,
    F__law_spoiled := funD_mk l__law_spoiled c__law_spoiled,
    kp__law_spoiled := k__law_spoiled,
    mg__law_spoiled := PySem.W.mg_of X G a__law_spoiled,
    F__law_made := funD_mk l__law_made c__law_made,
    kp__law_made := k__law_made,
    mg__law_made := PySem.W.mg_of X G a__law_made,
    F__law_refused := funD_mk l__law_refused c__law_refused,
    kp__law_refused := k__law_refused,
    mg__law_refused := PySem.W.mg_of X G a__law_refused,
    F_law := funD_mk l_law c_law,
    kp_law := k_law,
    mg_law := PySem.W.mg_of X G a_law,
    mg_Rule := PySem.W.mg_of X G aC_Rule,
    cl_Rule := ⟨pg_Rule, hd_Rule, po_Rule, sa_Rule⟩,
    M_Rule := ⟨mk_Rule, a_Rule___init__, i_Rule___init__, kc_Rule⟩,
    ty_Rule := ⟨t1_Rule, hgg, htt, t2_Rule⟩,
    is_Rule_Rule := kit_own t2_Rule t3_Rule is_Rule_Rule,
    mg_Once := PySem.W.mg_of X G aC_Once,
    cl_Once := ⟨pg_Once, hd_Once, po_Once, sa_Once⟩,
    na_Once_many := na_Once_many,
    na_Once_first := na_Once_first,
    na_Once_last := na_Once_last,
    M_Once := ⟨mk_Once, a_Once___init__, i_Once___init__, kc_Once⟩,
    ty_Once := ⟨t1_Once, hgg, htt, t2_Once⟩,
    is_Once_Rule := kit_own t2_Rule t3_Rule is_Once_Rule,
    mg_Each := PySem.W.mg_of X G aC_Each,
    cl_Each := ⟨pg_Each, hd_Each, po_Each, sa_Each⟩,
    na_Each_many := na_Each_many,
    na_Each_start := na_Each_start,
    na_Each_step := na_Each_step,
    na_Each_wide := na_Each_wide,
    M_Each := ⟨mk_Each, a_Each___init__, i_Each___init__, kc_Each⟩,
    ty_Each := ⟨t1_Each, hgg, htt, t2_Each⟩,
    is_Each_Rule := kit_own t2_Rule t3_Rule is_Each_Rule,
    mg_Behind := PySem.W.mg_of X G aC_Behind,
    cl_Behind := ⟨pg_Behind, hd_Behind, po_Behind, sa_Behind⟩,
    na_Behind_many := na_Behind_many,
    na_Behind_start := na_Behind_start,
    na_Behind_gap := na_Behind_gap,
    na_Behind_wide := na_Behind_wide,
    M_Behind := ⟨mk_Behind, a_Behind___init__, i_Behind___init__, kc_Behind⟩,
    ty_Behind := ⟨t1_Behind, hgg, htt, t2_Behind⟩,
    is_Behind_Rule := kit_own t2_Rule t3_Rule is_Behind_Rule,
    mg_Slowing := PySem.W.mg_of X G aC_Slowing,
    cl_Slowing := ⟨pg_Slowing, hd_Slowing, po_Slowing, sa_Slowing⟩,
    na_Slowing_many := na_Slowing_many,
    na_Slowing_start := na_Slowing_start,
    na_Slowing_gap := na_Slowing_gap,
    na_Slowing_wide := na_Slowing_wide,
    na_Slowing_most := na_Slowing_most,
    M_Slowing := ⟨mk_Slowing, a_Slowing___init__, i_Slowing___init__, kc_Slowing⟩,
    ty_Slowing := ⟨t1_Slowing, hgg, htt, t2_Slowing⟩,
    is_Slowing_Rule := kit_own t2_Rule t3_Rule is_Slowing_Rule,
    mg_NoRow := PySem.W.mg_of X G aC_NoRow,
    x_NoRow := x_NoRow,
    mg_NoRule := PySem.W.mg_of X G aC_NoRule,
    x_NoRule := x_NoRule,
    mg_NoStretch := PySem.W.mg_of X G aC_NoStretch,
    x_NoStretch := x_NoStretch,
    mg_NoTime := PySem.W.mg_of X G aC_NoTime,
    x_NoTime := x_NoTime,
    mg_NoWeight := PySem.W.mg_of X G aC_NoWeight,
    x_NoWeight := x_NoWeight,
    mg_WakeError := PySem.W.mg_of X G aC_WakeError,
    x_WakeError := x_WakeError,
    te_NoRule := ⟨ga_NoRule, gn_NoRule, mb_NoRule, hd_NoRule, ⟨t1_NoRule, hgg, htt, t2_NoRule⟩⟩,
    iv_NoRule := kit_ve vv_NoRule,
    is_NoRule_NoRow := kit_not t2_NoRow t3_NoRow is_NoRule_NoRow nq_NoRule_NoRow,
    hit_NoRule_NoRule := ⟨x_NoRule, is_NoRule_NoRule⟩,
    is_NoRule_NoRule := kit_own t2_NoRule t3_NoRule is_NoRule_NoRule,
    is_NoRule_NoStretch := kit_not t2_NoStretch t3_NoStretch is_NoRule_NoStretch nq_NoRule_NoStretch,
    is_NoRule_NoTime := kit_not t2_NoTime t3_NoTime is_NoRule_NoTime nq_NoRule_NoTime,
    is_NoRule_NoWeight := kit_not t2_NoWeight t3_NoWeight is_NoRule_NoWeight nq_NoRule_NoWeight,
    hit_NoRule_WakeError := ⟨x_NoRule, is_NoRule_WakeError⟩,
    is_NoRule_WakeError := kit_own t2_WakeError t3_WakeError is_NoRule_WakeError,
    B_Behind___init__ := ⟨b1_Behind___init__, b2_Behind___init__, b3_Behind___init__, k_Behind___init__⟩,
    B_Rule___init__ := ⟨b1_Rule___init__, b2_Rule___init__, b3_Rule___init__, k_Rule___init__⟩,
    no_ValueError := PySem.W.mg_none_of X G no_ValueError,
    no_bool := PySem.W.mg_none_of X G no_bool,
    no_int := PySem.W.mg_none_of X G no_int,
    no_isinstance := PySem.W.mg_none_of X G no_isinstance,
    no_len := PySem.W.mg_none_of X G no_len,
    no_str := PySem.W.mg_none_of X G no_str
  }⟩
def geD (l : Int) : PyData → Bool
  | .int n => decide (l ≤ n)
  | _ => false
def manyD : PyData → Bool
  | .none => true
  | d => geD 1 d
def ofI : PyData → Int
  | .int n => n
  | _ => 0
def lastD (a : PyData) : PyData → Bool
  | .none => true
  | b => geD (ofI a) b
def okOnce (a b : PyData) : Bool := geD 0 a && lastD a b
def okEach (a b c m : PyData) : Bool := geD 0 a && (geD 1 b && (geD 0 c && (!geD (ofI b) c && manyD m)))
def okBehind (a b c m : PyData) : Bool := geD 0 a && (geD 1 b && (geD 0 c && manyD m))
def okSlowing (a b o c m : PyData) : Bool := okBehind a b c m && geD (ofI b) o
def okM (k : Int) : List PyData → Bool
  | [a, b] => okOnce a b
  | [a, b, c, m] => if k = 1 then okEach a b c m else okBehind a b c m
  | [a, b, o, c, m] => okSlowing a b o c m
  | _ => false
theorem ofI_int (n : Int) : ofI (.int n) = n := rfl
theorem geD_int (l n : Int) : geD l (.int n) = decide (l ≤ n) := rfl
theorem lastD_int' (a : PyData) (n : Int) : lastD a (.int n) = geD (ofI a) (.int n) := rfl
theorem ge_inv {l : Int} {d : PyData} (h : geD l d = true) : ∃ n, d = .int n ∧ l ≤ n := by
  cases d <;> simp [geD] at h
  exact ⟨_, rfl, h⟩
theorem many_inv {d : PyData} (h : manyD d = true) : d = .none ∨ ∃ n, d = .int n ∧ 1 ≤ n := by
  cases d <;> simp [manyD, geD] at h
  · exact .inl rfl
  · exact .inr ⟨_, rfl, h⟩
theorem isW_ge {d : PyData} {l : Int} (h : (isInt d && !isBool d) = false) : geD l d = false := by
  cases d <;> simp_all [isInt, isBool, geD]
theorem isW_int {d : PyData} (h : (isInt d && !isBool d) = true) : ∃ n, d = .int n := by
  cases d <;> simp_all [isInt, isBool]
def lenK (k : Int) : Nat := if k = 0 then 2 else if k = 3 then 5 else 4
def MD (m : PyData) : Prop := m = .none ∨ ∃ i, m = .int i ∧ 1 ≤ i
def Good (k s g : Int) (ds : List PyData) : Prop := 0 ≤ s ∧ 1 ≤ g ∧ ((k = 0 ∧ ∃ w, 0 ≤ w ∧ ds = [.int s, .int (s + w)]) ∨ (k = 1 ∧ ∃ w m, 0 ≤ w ∧ w < g ∧ MD m ∧ ds = [.int s, .int g, .int w, m]) ∨ (k = 2 ∧ ∃ w m, 0 ≤ w ∧ MD m ∧ ds = [.int s, .int g, .int w, m]) ∨ (k = 3 ∧ ∃ o w m, g ≤ o ∧ 0 ≤ w ∧ MD m ∧ ds = [.int s, .int g, .int o, .int w, m]))
theorem Good.len {k s g : Int} {ds : List PyData} (h : Good k s g ds) : ds.length = lenK k := by
  obtain ⟨_, _, ⟨rfl, _, _, rfl⟩ | ⟨rfl, _, _, _, _, _, rfl⟩ | ⟨rfl, _, _, _, _, rfl⟩ | ⟨rfl, _, _, _, _, _, _, rfl⟩⟩ := h <;> rfl
theorem md_many {m : PyData} (h : MD m) : manyD m = true := by
  rcases h with rfl | ⟨i, rfl, hi⟩
  · rfl
  · simpa [manyD, geD] using hi
theorem Good.ok {k s g : Int} {ds : List PyData} (h : Good k s g ds) : okM k ds = true := by
  obtain ⟨h1, h2, ⟨rfl, w, hw, rfl⟩ | ⟨rfl, w, m, hw, hg, hm, rfl⟩ | ⟨rfl, w, m, hw, hm, rfl⟩ | ⟨rfl, o, w, m, ho, hw, hm, rfl⟩⟩ := h
  · have e1 : geD 0 (.int s) = true := decide_eq_true h1
    have e2 : geD s (.int (s + w)) = true := decide_eq_true (by omega)
    simp [okM, okOnce, lastD_int', ofI_int, e1, e2]
  · have e1 : geD 0 (.int s) = true := decide_eq_true h1
    have e2 : geD 1 (.int g) = true := decide_eq_true h2
    have e3 : geD 0 (.int w) = true := decide_eq_true hw
    have e4 : geD g (.int w) = false := decide_eq_false (by omega)
    simp [okM, okEach, ofI_int, e1, e2, e3, e4, md_many hm]
  · have e1 : geD 0 (.int s) = true := decide_eq_true h1
    have e2 : geD 1 (.int g) = true := decide_eq_true h2
    have e3 : geD 0 (.int w) = true := decide_eq_true hw
    simp [okM, okBehind, e1, e2, e3, md_many hm]
  · have e1 : geD 0 (.int s) = true := decide_eq_true h1
    have e2 : geD 1 (.int g) = true := decide_eq_true h2
    have e3 : geD 0 (.int w) = true := decide_eq_true hw
    have e4 : geD g (.int o) = true := decide_eq_true ho
    simp [okM, okSlowing, okBehind, ofI_int, e1, e2, e3, e4, md_many hm]
def Bad (k s g : Int) (i : Nat) (e : PyData) : Prop :=
  if k = 0 then (if i = 0 then geD 0 e = false else e ≠ .none ∧ geD s e = false)
  else if k = 1 then (if i = 0 then geD 0 e = false else if i = 1 then geD 1 e = false else if i = 2 then (geD 0 e = false ∨ geD g e = true) else e ≠ .none ∧ geD 1 e = false)
  else if k = 2 then (if i = 0 then geD 0 e = false else if i = 1 then geD 1 e = false else if i = 2 then geD 0 e = false else e ≠ .none ∧ geD 1 e = false)
  else (if i = 0 then geD 0 e = false else if i = 1 then geD 1 e = false else if i = 2 then geD g e = false else if i = 3 then geD 0 e = false else e ≠ .none ∧ geD 1 e = false)
theorem many_bad {e : PyData} (h : e ≠ .none ∧ geD 1 e = false) : manyD e = false := by
  cases e <;> simp_all [manyD]
theorem last_bad {a e : PyData} (h : e ≠ .none ∧ geD (ofI a) e = false) : lastD a e = false := by
  cases e <;> simp_all [lastD]
theorem wide_bad {e : PyData} {g : Int} (h : geD 0 e = false ∨ geD g e = true) : (geD 0 e && !geD g e) = false := by
  rcases h with h | h
  · rw [h]; rfl
  · rw [h]; simp
theorem bad2 {k s g : Int} {ds : List PyData} {i j : Nat} {e f : PyData} (h : Good k s g ds) (hi : i < ds.length) (hj : j < ds.length) (he : Bad k s g i e) (hf : Bad k s g j f) : okM k ((ds.set i e).set j f) = false := by
  obtain ⟨h1, h2, ⟨rfl, w, hw, rfl⟩ | ⟨rfl, w, m, hw, hg, hm, rfl⟩ | ⟨rfl, w, m, hw, hm, rfl⟩ | ⟨rfl, o, w, m, ho, hw, hm, rfl⟩⟩ := h
  · match i, j, hi, hj with
    | 0, 0, _, _ => simp_all [Bad, okM, okOnce]
    | 0, 1, _, _ => simp_all [Bad, okM, okOnce]
    | 1, 0, _, _ => simp_all [Bad, okM, okOnce]
    | 1, 1, _, _ =>
      have := last_bad (a := .int s) (by simpa [Bad, ofI_int] using hf)
      simp_all [okM, okOnce]
  · match i, j, hi, hj with
    | 0, j, _, hj => 
      match j, hj with
      | 0, _ => simp_all [Bad, okM, okEach]
      | 1, _ => simp_all [Bad, okM, okEach]
      | 2, _ => simp_all [Bad, okM, okEach]
      | 3, _ => simp_all [Bad, okM, okEach]
    | 1, j, _, hj => 
      match j, hj with
      | 0, _ => simp_all [Bad, okM, okEach]
      | 1, _ => simp_all [Bad, okM, okEach]
      | 2, _ => simp_all [Bad, okM, okEach]
      | 3, _ => simp_all [Bad, okM, okEach]
    | 2, j, _, hj => 
      have hb := wide_bad (g := g) (e := e) (by simpa [Bad] using he)
      match j, hj with
      | 0, _ => simp_all [Bad, okM, okEach]
      | 1, _ => simp_all [Bad, okM, okEach]
      | 2, _ =>
        have hc := wide_bad (g := g) (e := f) (by simpa [Bad] using hf)
        clear hb he hf
        simp only [List.set, okM, okEach, ofI_int, if_true]
        rw [← Bool.and_assoc (geD 0 f), hc]
        simp
      | 3, _ =>
        clear he hf
        simp only [List.set, okM, okEach, ofI_int, if_true]
        rw [← Bool.and_assoc (geD 0 e), hb]
        simp
    | 3, j, _, hj => 
      have hb := many_bad (e := e) (by simpa [Bad] using he)
      match j, hj with
      | 0, _ => simp_all [Bad, okM, okEach]
      | 1, _ => simp_all [Bad, okM, okEach]
      | 2, _ => simp_all [okM, okEach]
      | 3, _ =>
        have hc := many_bad (e := f) (by simpa [Bad] using hf)
        simp_all [okM, okEach]
  · match i, j, hi, hj with
    | 0, j, _, hj => 
      match j, hj with
      | 0, _ => simp_all [Bad, okM, okBehind]
      | 1, _ => simp_all [Bad, okM, okBehind]
      | 2, _ => simp_all [Bad, okM, okBehind]
      | 3, _ => simp_all [Bad, okM, okBehind]
    | 1, j, _, hj => 
      match j, hj with
      | 0, _ => simp_all [Bad, okM, okBehind]
      | 1, _ => simp_all [Bad, okM, okBehind]
      | 2, _ => simp_all [Bad, okM, okBehind]
      | 3, _ => simp_all [Bad, okM, okBehind]
    | 2, j, _, hj => 
      match j, hj with
      | 0, _ => simp_all [Bad, okM, okBehind]
      | 1, _ => simp_all [Bad, okM, okBehind]
      | 2, _ => simp_all [Bad, okM, okBehind]
      | 3, _ => simp_all [Bad, okM, okBehind]
    | 3, j, _, hj => 
      have hb := many_bad (e := e) (by simpa [Bad] using he)
      match j, hj with
      | 0, _ => simp_all [Bad, okM, okBehind]
      | 1, _ => simp_all [Bad, okM, okBehind]
      | 2, _ => simp_all [Bad, okM, okBehind]
      | 3, _ =>
        have hc := many_bad (e := f) (by simpa [Bad] using hf)
        simp_all [okM, okBehind]
  · match i, j, hi, hj with
    | 0, j, _, hj => 
      match j, hj with
      | 0, _ => simp_all [Bad, okM, okSlowing, okBehind]
      | 1, _ => simp_all [Bad, okM, okSlowing, okBehind]
      | 2, _ => simp_all [Bad, okM, okSlowing, okBehind]
      | 3, _ => simp_all [Bad, okM, okSlowing, okBehind]
      | 4, _ => simp_all [Bad, okM, okSlowing, okBehind]
    | 1, j, _, hj => 
      match j, hj with
      | 0, _ => simp_all [Bad, okM, okSlowing, okBehind]
      | 1, _ => simp_all [Bad, okM, okSlowing, okBehind]
      | 2, _ => simp_all [Bad, okM, okSlowing, okBehind]
      | 3, _ => simp_all [Bad, okM, okSlowing, okBehind]
      | 4, _ => simp_all [Bad, okM, okSlowing, okBehind]
    | 2, j, _, hj => 
      match j, hj with
      | 0, _ => simp_all [Bad, okM, okSlowing, okBehind]
      | 1, _ => simp_all [Bad, okM, okSlowing, okBehind]
      | 2, _ => simp_all [Bad, okM, okSlowing, okBehind, ofI_int]
      | 3, _ => simp_all [Bad, okM, okSlowing, okBehind]
      | 4, _ => simp_all [Bad, okM, okSlowing, okBehind, ofI_int]
    | 3, j, _, hj => 
      match j, hj with
      | 0, _ => simp_all [Bad, okM, okSlowing, okBehind]
      | 1, _ => simp_all [Bad, okM, okSlowing, okBehind]
      | 2, _ => simp_all [Bad, okM, okSlowing, okBehind]
      | 3, _ => simp_all [Bad, okM, okSlowing, okBehind]
      | 4, _ => simp_all [Bad, okM, okSlowing, okBehind]
    | 4, j, _, hj => 
      have hb := many_bad (e := e) (by simpa [Bad] using he)
      match j, hj with
      | 0, _ => simp_all [Bad, okM, okSlowing, okBehind]
      | 1, _ => simp_all [Bad, okM, okSlowing, okBehind]
      | 2, _ => simp_all [Bad, okM, okSlowing, okBehind]
      | 3, _ => simp_all [Bad, okM, okSlowing, okBehind]
      | 4, _ =>
        have hc := many_bad (e := f) (by simpa [Bad] using hf)
        simp_all [okM, okSlowing, okBehind]
theorem bad1 {k s g : Int} {ds : List PyData} {i : Nat} {e : PyData} (h : Good k s g ds) (hi : i < ds.length) (he : Bad k s g i e) : okM k (ds.set i e) = false := by
  have := bad2 h hi hi he he
  rwa [List.set_set] at this
def NotIns : HO → Prop
  | .ins .. => False
  | _ => True
mutual
theorem dvI {H H' : Hp} (e : ∀ b u, H b = some u → NotIns u → H' b = some u) : ∀ {v : V} {d : PyData}, Dv H v d → Dv H' v d
  | _, _, .non => .non
  | _, _, .bl b => .bl b
  | _, _, .int i => .int i
  | _, _, .str x => .str x
  | _, _, .tup h r => .tup (e _ _ h trivial) (dvsI e r)
  | _, _, .lst h r => .lst (h.elim (fun h => .inl (e _ _ h trivial)) fun ⟨o, h⟩ => .inr ⟨o, e _ _ h trivial⟩) (dvsI e r)
  | _, _, .dct h r => .dct (e _ _ h trivial) (dksI e r)
theorem dksI {H H' : Hp} (e : ∀ b u, H b = some u → NotIns u → H' b = some u) : ∀ {v : List (Key × V)} {d : List (PyData × PyData)}, Dks H v d → Dks H' v d
  | _, _, .nil => .nil
  | _, _, .cons h r => .cons (dvI e h) (dksI e r)
theorem dvsI {H H' : Hp} (e : ∀ b u, H b = some u → NotIns u → H' b = some u) : ∀ {v : List V} {d : List PyData}, Dvs H v d → Dvs H' v d
  | _, _, .nil => .nil
  | _, _, .cons h r => .cons (dvI e h) (dvsI e r)
end
theorem dv_upd {H : Hp} {p C dx : Addr} {fs fs' : List (Str × V)} {v : V} {d : PyData} (hp : H p = some (.ins C dx fs)) (h : Dv H v d) : Dv (upd H p (.ins C dx fs')) v d := dvI (fun b u e n => by
  rw [upd_ne (fun z => by rw [z, hp] at e; cases e; exact n)]
  exact e) h
def sp_whole : Sp := fun vs H Q _ => ∃ v d, vs = [v] ∧ Dv H v d ∧ Q (.bl (isInt d && !isBool d)) H
theorem u_whole {H : Hp} {Q : VK} {E : XK} {v : V} {d : PyData} (h : Dv H v d) (q : Q (.bl (isInt d && !isBool d)) H) : sp_whole [v] H Q E := ⟨v, d, rfl, h, q⟩
def sp_chk (NR : Addr) : Sp := fun vs H Q E => ∃ v l x d, vs = [v, .int l, .str x] ∧ x.length ≤ 100 ∧ Dv H v d ∧ (geD l d = true → Q .non H) ∧ (geD l d = false → ∀ H2, E (.ref NR) none H2)
theorem u_chk {NR : Addr} {H : Hp} {Q : VK} {E : XK} {v : V} {l : Int} {x : Str} {d : PyData} (hx : x.length ≤ 100) (h : Dv H v d) (q : geD l d = true → Q .non H) (e : geD l d = false → ∀ H2, E (.ref NR) none H2) : sp_chk NR [v, .int l, .str x] H Q E := ⟨v, l, x, d, rfl, hx, h, q, e⟩
def sp_rule (C NR : Addr) : Sp := fun vs H Q E => ∃ p dx m d, vs = [.ref p, m] ∧ Dv H m d ∧ H p = some (.ins C dx []) ∧ (manyD d = true → Q .non (upd H p (.ins C dx [("many", m)]))) ∧ (manyD d = false → ∀ H2, E (.ref NR) none H2)
theorem u_rule {C NR p dx : Addr} {H : Hp} {Q : VK} {E : XK} {m : V} {d : PyData} (h : Dv H m d) (hp : H p = some (.ins C dx [])) (q : manyD d = true → Q .non (upd H p (.ins C dx [("many", m)]))) (e : manyD d = false → ∀ H2, E (.ref NR) none H2) : sp_rule C NR [.ref p, m] H Q E := ⟨p, dx, m, d, rfl, h, hp, q, e⟩
def fOnce (f l : V) : List (Str × V) := match l with
  | .non => [("many", .int 1), ("first", f), ("last", f)]
  | l => [("many", .int 1), ("first", f), ("last", l)]
def fEach (st sp wd m : V) : List (Str × V) := [("many", m), ("start", st), ("step", sp), ("wide", wd)]
def fBehind (st gp wd m : V) : List (Str × V) := [("many", m), ("start", st), ("gap", gp), ("wide", wd)]
def fSlowing (st gp mo wd m : V) : List (Str × V) := [("many", m), ("start", st), ("gap", gp), ("wide", wd), ("most", mo)]
def sp2 (C NR : Addr) (ok : PyData → PyData → Bool) (fs : V → V → List (Str × V)) : Sp := fun vs H Q E => ∃ p dx v1 v2 d1 d2, vs = [.ref p, v1, v2] ∧ Dv H v1 d1 ∧ Dv H v2 d2 ∧ H p = some (.ins C dx []) ∧ (ok d1 d2 = true → Q .non (upd H p (.ins C dx (fs v1 v2)))) ∧ (ok d1 d2 = false → ∀ H2, E (.ref NR) none H2)
def sp4 (C NR : Addr) (ok : PyData → PyData → PyData → PyData → Bool) (fs : V → V → V → V → List (Str × V)) : Sp := fun vs H Q E => ∃ p dx v1 v2 v3 v4 d1 d2 d3 d4, vs = [.ref p, v1, v2, v3, v4] ∧ Dv H v1 d1 ∧ Dv H v2 d2 ∧ Dv H v3 d3 ∧ Dv H v4 d4 ∧ H p = some (.ins C dx []) ∧ (ok d1 d2 d3 d4 = true → Q .non (upd H p (.ins C dx (fs v1 v2 v3 v4)))) ∧ (ok d1 d2 d3 d4 = false → ∀ H2, E (.ref NR) none H2)
def sp5 (C NR : Addr) (ok : PyData → PyData → PyData → PyData → PyData → Bool) (fs : V → V → V → V → V → List (Str × V)) : Sp := fun vs H Q E => ∃ p dx v1 v2 v3 v4 v5 d1 d2 d3 d4 d5, vs = [.ref p, v1, v2, v3, v4, v5] ∧ Dv H v1 d1 ∧ Dv H v2 d2 ∧ Dv H v3 d3 ∧ Dv H v4 d4 ∧ Dv H v5 d5 ∧ H p = some (.ins C dx []) ∧ (ok d1 d2 d3 d4 d5 = true → Q .non (upd H p (.ins C dx (fs v1 v2 v3 v4 v5)))) ∧ (ok d1 d2 d3 d4 d5 = false → ∀ H2, E (.ref NR) none H2)
theorem made_same {H : Hp} {x dx C : Addr} {fs : List (Str × V)} (hx : H x = none) (hd : H dx = none) : Same H (upd (upd H dx (.own x)) x (.ins C dx fs)) := fun b u e => by
  rw [upd_ne (ne_of_none e hx), upd_ne (ne_of_none e hd)]
  exact e
theorem r_make2 {C NR : Addr} {ok : PyData → PyData → Bool} {fs : V → V → List (Str × V)} {us : List V} {H : Hp} {Q : VK} {E : XK} {v1 v2 : V} {d1 d2 : PyData} (eu : us = [v1, v2]) (h1 : Dv H v1 d1) (h2 : Dv H v2 d2) (k : ok d1 d2 = true → ∀ v H2, Same H H2 → Ins H2 v C (fs v1 v2) → Q v H2) (e : ok d1 d2 = false → ∀ H2, E (.ref NR) none H2) : MakeP C (sp2 C NR ok fs) us H Q E := by
  refine ⟨_, eu, fun x dx hx hd ne => ?_⟩
  have s := made_same (C := C) (fs := []) hx hd
  refine ⟨x, dx, v1, v2, d1, d2, rfl, h1.keeps s, h2.keeps s, upd_same, fun o => ⟨rfl, ?_⟩, e⟩
  rw [upd_upd]
  exact k o _ _ (made_same hx hd) ⟨x, dx, rfl, upd_same⟩
theorem r_make4 {C NR : Addr} {ok : PyData → PyData → PyData → PyData → Bool} {fs : V → V → V → V → List (Str × V)} {us : List V} {H : Hp} {Q : VK} {E : XK} {v1 v2 v3 v4 : V} {d1 d2 d3 d4 : PyData} (eu : us = [v1, v2, v3, v4]) (h1 : Dv H v1 d1) (h2 : Dv H v2 d2) (h3 : Dv H v3 d3) (h4 : Dv H v4 d4) (k : ok d1 d2 d3 d4 = true → ∀ v H2, Same H H2 → Ins H2 v C (fs v1 v2 v3 v4) → Q v H2) (e : ok d1 d2 d3 d4 = false → ∀ H2, E (.ref NR) none H2) : MakeP C (sp4 C NR ok fs) us H Q E := by
  refine ⟨_, eu, fun x dx hx hd ne => ?_⟩
  have s := made_same (C := C) (fs := []) hx hd
  refine ⟨x, dx, v1, v2, v3, v4, d1, d2, d3, d4, rfl, h1.keeps s, h2.keeps s, h3.keeps s, h4.keeps s, upd_same, fun o => ⟨rfl, ?_⟩, e⟩
  rw [upd_upd]
  exact k o _ _ (made_same hx hd) ⟨x, dx, rfl, upd_same⟩
theorem r_make5 {C NR : Addr} {ok : PyData → PyData → PyData → PyData → PyData → Bool} {fs : V → V → V → V → V → List (Str × V)} {us : List V} {H : Hp} {Q : VK} {E : XK} {v1 v2 v3 v4 v5 : V} {d1 d2 d3 d4 d5 : PyData} (eu : us = [v1, v2, v3, v4, v5]) (h1 : Dv H v1 d1) (h2 : Dv H v2 d2) (h3 : Dv H v3 d3) (h4 : Dv H v4 d4) (h5 : Dv H v5 d5) (k : ok d1 d2 d3 d4 d5 = true → ∀ v H2, Same H H2 → Ins H2 v C (fs v1 v2 v3 v4 v5) → Q v H2) (e : ok d1 d2 d3 d4 d5 = false → ∀ H2, E (.ref NR) none H2) : MakeP C (sp5 C NR ok fs) us H Q E := by
  refine ⟨_, eu, fun x dx hx hd ne => ?_⟩
  have s := made_same (C := C) (fs := []) hx hd
  refine ⟨x, dx, v1, v2, v3, v4, v5, d1, d2, d3, d4, d5, rfl, h1.keeps s, h2.keeps s, h3.keeps s, h4.keeps s, h5.keeps s, upd_same, fun o => ⟨rfl, ?_⟩, e⟩
  rw [upd_upd]
  exact k o _ _ (made_same hx hd) ⟨x, dx, rfl, upd_same⟩
def sp_num : Sp := fun vs H Q _ => ∃ i, vs = [.int i] ∧ ∀ n, 0 ≤ n → n < 10 ^ 39 → Q (.int n) H
theorem u_num {H : Hp} {Q : VK} {E : XK} {i : Int} (q : ∀ n, 0 ≤ n → n < 10 ^ 39 → Q (.int n) H) : sp_num [.int i] H Q E := ⟨i, rfl, q⟩
def sp_law (K : PySem.W.Frag) : Sp := fun vs H Q _ => ∃ (l : Addr) (ns : List Int), vs = [.ref l] ∧ SqL K H l (ns.map V.int) ∧ ns.length ≤ 63 ∧ ∀ H', Q (.bl true) H'
local macro_rules | `(tactic| walk_at "use") => `(tactic| first
  | ((with_reducible refine' u_whole ?e ?_); case e => walk_at "dat")
  | ((with_reducible refine' u_cell ?e1 ?e2 ?_); (case e1 => walk_at "sql"); (case e2 => omega))
  | (with_reducible refine' u_num (fun _ _ _ => ?_))
  | fail)
section
variable {P : Program} {w : World} {K : PySem.W.Frag} {mg : Str → Option Value} {base : Heap} {a : Ad}
theorem law_binds (T : Txt K mg a) (s : Shared) (u : Value) : BindsTo s a.fd_law ⟨[u], []⟩ [("_law_script", u)] := by
  obtain ⟨oc, od, kV, doc, pm, an, cdv, ct, osl, e, lk, hcd⟩ := T.F_law.ex
  rw [e]
  exact .of_eq rfl
theorem ok_is_whole (T : Txt K mg a) : FnOk P w K mg base CX0 1 a.f_is_whole a.fd_is_whole ["thing"] sp_whole := by
  refine T.F_is_whole.ok sc_is_whole (fun vs H Q E h => ?_) (fun cdv A outer s H vs Q E hr h => ?_)
  · obtain ⟨_, _, rfl, _⟩ := h; rfl
  · obtain ⟨v, d, rfl, hd, k⟩ := h
    refine ⟨_, (pss_one (ps_ret (pe_and (pe_callB call_isi rfl T.no_isinstance PyProof.Rows.boot_isinstance (pa_cons (pv 0) (pa_cons (pe_bltn (v := .ty "int") rfl T.no_int PyProof.Rows.boot_int rfl) pa_nil))) (pe_one (pe_not (pe_callB call_isi rfl T.no_isinstance PyProof.Rows.boot_isinstance (pa_cons (pv 0) (pa_cons (pe_bltn (v := .ty "bool") rfl T.no_bool PyProof.Rows.boot_bool rfl) pa_nil)))))))), ?_⟩
    repeat' (walk_at "rd1")
    · refine r_rt ?_; cases d <;> simp_all [isInt, isBool]
    · refine r_rt ?_; cases d <;> simp_all [isInt, isBool]
theorem cal_is_whole (T : Txt K mg a) : Cal P w K mg base 1 a.f_is_whole ["thing"] [] sp_whole :=
  ⟨⟨_, _, ok_is_whole T, T.F_is_whole.binds fun _ _ _ _ _ _ => .all fun us hl => match us, hl with | [_], _ => rfl, .nil⟩⟩
theorem ok_law_cell_at (T : Txt K mg a) : FnOk P w K mg base CX0 1 a.f__law_cell_at a.fd__law_cell_at ["_law_script", "_law_k"] (spCell K) := by
  refine T.F__law_cell_at.ok sc__law_cell_at (fun vs H Q E h => ?_) (fun cdv A outer s H vs Q E hr h => ?_)
  · obtain ⟨_, _, _, rfl, _⟩ := h; rfl
  · obtain ⟨l, ns, i, rfl, hl, h0, k⟩ := h
    refine ⟨_, (pss_cut (ps_if (pt_cmpR op_lt (pv 1) (pe_callB call_lenK rfl T.no_len PySem.boot_len (pa_cons (pv 0) pa_nil)) (nomark _))
        (pss_one (ps_ret (pe_ix ix_K (pv 0) (pv 1) (fun _ _ => rfl))))
        pss_nil)
      (pss_one (ps_ret pe_int))), ?_⟩
    repeat' (walk_at "rd1")
    · exact r_ixL hl (cell_at h0 (by assumption)) k
    · rw [cell_no h0 (by assumption)] at k; exact k
theorem cal_law_cell_at (T : Txt K mg a) : Cal P w K mg base 1 a.f__law_cell_at ["_law_script", "_law_k"] [] (spCell K) :=
  ⟨⟨_, _, ok_law_cell_at T, T.F__law_cell_at.binds fun _ _ _ _ _ _ => .all fun us hl => match us, hl with | [_, _], _ => rfl, .nil⟩⟩
theorem ok_law_number (T : Txt K mg a) : FnOk P w K mg base CX0 1 a.f__law_number a.fd__law_number ["_law_cell"] sp_num := by
  refine T.F__law_number.ok sc__law_number (fun vs H Q E h => ?_) (fun cdv A outer s H vs Q E hr h => ?_)
  · obtain ⟨_, rfl, _⟩ := h; rfl
  · obtain ⟨n, rfl, q⟩ := h
    refine ⟨_, (pss_cut (ps_if (pt_cmpR (op_eqA hr.hu8) (pe_op op_modP (pv 0) pe_int) pe_int (nomark _))
        (pss_one (ps_ret (pe_op op_modP (pe_op op_fdivB (pv 0) pe_int) pe_int)))
        pss_nil)
      (pss_cut (ps_if (pt_cmpR (op_eqA hr.hu8) (pe_op op_modP (pv 0) pe_int) pe_int (nomark _))
        (pss_one (ps_ret (pe_op op_modP (pe_op op_fdivB (pv 0) pe_int) pe_int)))
        pss_nil)
      (pss_one (ps_ret (pe_op op_modP (pe_op op_fdivB (pv 0) pe_int) (pe_op op_pow pe_int pe_int)))))), ?_⟩
    repeat' (walk_at "rd1")
    all_goals exact q _ (by omega) (by omega)
theorem cal_law_number (T : Txt K mg a) : Cal P w K mg base 1 a.f__law_number ["_law_cell"] [] sp_num :=
  ⟨⟨_, _, ok_law_number T, T.F__law_number.binds fun _ _ _ _ _ _ => .all fun us hl => match us, hl with | [_], _ => rfl, .nil⟩⟩
theorem ok_chk (T : Txt K mg a) : FnOk P w K mg base (CXR P w) 2 a.f_check_from a.fd_check_from ["number", "least", "what"] (sp_chk a.C_NoRule) := by
  have c_is_whole := cal_is_whole (P := P) (w := w) (base := base) T
  refine T.F_check_from.okR sc_check_from (fun vs H Q E h => ?_) (fun cdv A outer s H vs Q E hr h => ?_)
  · obtain ⟨_, _, _, _, rfl, _⟩ := h; rfl
  · obtain ⟨v, l, x, d, rfl, hx, hd, q, e⟩ := h
    refine ⟨_, (pss_one (ps_if (PW.pt (pw_or (pt_not (pt_truth (pn_call c_is_whole (hr.mono (by decide)) rfl T.mg_is_whole T.kp_is_whole (pa_cons (pv 0) pa_nil)) (fun _ => rfl))) (pw_or1 (pt_cmpR op_lt (pv 0) (pv 1) (nomark _)))))
        (pss_one (ps_raise raiseR rfl (pa_cons (pe_fstr2 (pv 2)) pa_nil) rfl T.mg_NoRule T.x_NoRule))
        pss_nil)), ?_⟩
    cases d with
    | int n =>
      obtain rfl := hd.int_inv
      repeat' (walk_at "rd1")
      · exact e (decide_eq_false (by omega)) _
      · exact q (decide_eq_true (by omega))
    | _ =>
      repeat' (walk_at "rd1")
      exact e rfl _
theorem cal_chk (T : Txt K mg a) : CalR P w K mg base 2 a.f_check_from ["number", "least", "what"] [] (sp_chk a.C_NoRule) :=
  ⟨⟨_, _, ok_chk T, T.F_check_from.binds fun _ _ _ _ _ _ => .all fun us hl => match us, hl with | [_, _, _], _ => rfl, .nil⟩⟩
theorem ok_Rule {C : Addr} (T : Txt K mg a) (cl : Cls K C) (na : NoAttr K C "many") : FnOk P w K mg base (CXR P w) 3 a.f_Rule___init__ a.fd_Rule___init__ ["self", "many"] (sp_rule C a.C_NoRule) := by
  have c_check_from := cal_chk (P := P) (w := w) (base := base) T
  refine T.F_Rule___init__.okR sc_Rule___init__ (fun vs H Q E h => ?_) (fun cdv A outer s H vs Q E hr h => ?_)
  · obtain ⟨_, _, _, _, rfl, _⟩ := h; rfl
  · obtain ⟨p, dx, m, d, rfl, hd, hp, q, e⟩ := h
    refine ⟨_, (pss_cut (ps_if (pt_cmpR op_notN (pv 1) pe_non (nomark _))
        (pss_one (ps_expr (pr_call c_check_from (hr.mono (by decide)) rfl T.mg_check_from T.kp_check_from passR (pa_cons (pv 1) (pa_cons pe_int (pa_cons pe_str pa_nil))))))
        pss_nil)
      (pss_one (ps_fld (pv 0) (pv 1) rfl))), ?_⟩
    cases d with
    | none =>
      obtain rfl := hd.non_inv
      repeat' (walk_at "rd1")
      exact q rfl
    | int n =>
      obtain rfl := hd.int_inv
      repeat' (walk_at "rd1")
      refine u_chk (by decide) hd (fun g => ?_) (fun g => e g)
      repeat' (walk_at "rd1")
      exact q g
    | _ =>
      repeat' (walk_at "rd1")
      all_goals first | exact u_chk (by decide) hd (fun g => by cases g) (fun g => e rfl) | (rename_i hb; subst hb; cases hd)
theorem cal_Rule {C : Addr} (T : Txt K mg a) (cl : Cls K C) (na : NoAttr K C "many") : CalR P w K mg base 3 a.f_Rule___init__ ["self", "many"] [] (sp_rule C a.C_NoRule) :=
  ⟨⟨_, _, ok_Rule T cl na, T.F_Rule___init__.binds fun _ _ _ _ _ _ => .all fun us hl => match us, hl with | [_, _], _ => rfl, .nil⟩⟩
theorem ok_Behind {C : Addr} (T : Txt K mg a) (cl : Cls K C) (n0 : NoAttr K C "many") (n1 : NoAttr K C "start") (n2 : NoAttr K C "gap") (n3 : NoAttr K C "wide") : FnOk P w K mg base (CXR P w) 4 a.f_Behind___init__ a.fd_Behind___init__ ["self", "start", "gap", "wide", "many"] (sp4 C a.C_NoRule okBehind fBehind) := by
  have c_check_from := cal_chk (P := P) (w := w) (base := base) T
  have c_Rule___init__ := cal_Rule (P := P) (w := w) (base := base) T cl n0
  refine T.F_Behind___init__.okR sc_Behind___init__ (fun vs H Q E h => ?_) (fun cdv A outer s H vs Q E hr h => ?_)
  · obtain ⟨_, _, _, _, _, _, _, _, _, _, rfl, _⟩ := h; rfl
  · obtain ⟨p, dx, v1, v2, v3, v4, d1, d2, d3, d4, rfl, h1, h2, h3, h4, hp, q, e⟩ := h
    refine ⟨_, (pss_cut (ps_expr (pr_call c_check_from (hr.mono (by decide)) rfl T.mg_check_from T.kp_check_from passR (pa_cons (pv 1) (pa_cons pe_int (pa_cons pe_str pa_nil)))))
      (pss_cut (ps_expr (pr_call c_check_from (hr.mono (by decide)) rfl T.mg_check_from T.kp_check_from passR (pa_cons (pv 2) (pa_cons pe_int (pa_cons pe_str pa_nil)))))
      (pss_cut (ps_expr (pr_call c_check_from (hr.mono (by decide)) rfl T.mg_check_from T.kp_check_from passR (pa_cons (pv 3) (pa_cons pe_int (pa_cons pe_str pa_nil)))))
      (pss_cut (ps_expr (pr_base rfl T.mg_Rule T.B_Rule___init__ c_Rule___init__ (hr.mono (by decide)) passR (pa_cons (pv 0) (pa_cons (pv 4) pa_nil))))
      (pss_cut (ps_fld (pv 0) (pv 1) rfl)
      (pss_cut (ps_fld (pv 0) (pv 2) rfl)
      (pss_one (ps_fld (pv 0) (pv 3) rfl)))))))), ?_⟩
    repeat' (walk_at "rd1")
    refine u_chk (by decide) h1 (fun g1 => ?_) (fun g => e (by simp [okBehind, g]))
    repeat' (walk_at "rd1")
    refine u_chk (by decide) h2 (fun g2 => ?_) (fun g => e (by simp [okBehind, g]))
    repeat' (walk_at "rd1")
    refine u_chk (by decide) h3 (fun g3 => ?_) (fun g => e (by simp [okBehind, g]))
    repeat' (walk_at "rd1")
    refine u_rule h4 hp (fun g4 => ?_) (fun g => e (by simp [okBehind, g]))
    repeat' (walk_at "rd1")
    simp only [upd_upd]
    exact q (by simp [okBehind, g1, g2, g3, g4])
theorem b_Behind_4 (T : Txt K mg a) : Binds K a.fd_Behind___init__ ["self", "start", "gap", "wide", "many"] [] := T.F_Behind___init__.binds fun _ _ _ _ _ _ s us kx hl => by
  obtain ⟨o, n, h1, h2⟩ := T.D_Behind___init__.ex
  have hl : us.length = 5 := by simp at hl; omega
  match us, hl with
  | [_, _, _, _, _], _ => exact PySem.W.binds_K kx rfl h1 h2 rfl rfl
theorem ok_Slowing (T : Txt K mg a) : FnOk P w K mg base (CXR P w) 5 a.f_Slowing___init__ a.fd_Slowing___init__ ["self", "start", "gap", "most", "wide", "many"] (sp5 a.C_Slowing a.C_NoRule okSlowing fSlowing) := by
  have c_check_from := cal_chk (P := P) (w := w) (base := base) T
  have c_Behind___init__ : CalR P w K mg base 4 a.f_Behind___init__ ["self", "start", "gap", "wide", "many"] [] (sp4 a.C_Slowing a.C_NoRule okBehind fBehind) := ⟨⟨_, _, ok_Behind T T.cl_Slowing T.na_Slowing_many T.na_Slowing_start T.na_Slowing_gap T.na_Slowing_wide, b_Behind_4 T, .nil⟩⟩
  have cl := T.cl_Slowing
  have n1 := T.na_Slowing_most
  refine T.F_Slowing___init__.okR sc_Slowing___init__ (fun vs H Q E h => ?_) (fun cdv A outer s H vs Q E hr h => ?_)
  · obtain ⟨_, _, _, _, _, _, _, _, _, _, _, _, rfl, _⟩ := h; rfl
  · obtain ⟨p, dx, v1, v2, v3, v4, v5, d1, d2, d3, d4, d5, rfl, h1, h2, h3, h4, h5, hp, q, e⟩ := h
    refine ⟨_, (pss_cut (ps_expr (pr_base rfl T.mg_Behind T.B_Behind___init__ c_Behind___init__ (hr.mono (by decide)) passR (pa_cons (pv 0) (pa_cons (pv 1) (pa_cons (pv 2) (pa_cons (pv 4) (pa_cons (pv 5) pa_nil)))))))
      (pss_cut (ps_expr (pr_call c_check_from (hr.mono (by decide)) rfl T.mg_check_from T.kp_check_from passR (pa_cons (pv 3) (pa_cons (pv 2) (pa_cons pe_str pa_nil)))))
      (pss_one (ps_fld (pv 0) (pv 3) rfl)))), ?_⟩
    repeat' (walk_at "rd1")
    refine ⟨p, dx, v1, v2, v4, v5, d1, d2, d4, d5, rfl, h1, h2, h4, h5, hp, fun g1 => ?_, fun g => e (by simp [okSlowing, g])⟩
    obtain ⟨n, rfl, hn⟩ := ge_inv (show geD 1 d2 = true by simp [okBehind] at g1; exact g1.2.1)
    obtain rfl := h2.int_inv
    have h3' : Dv (upd H p (.ins a.C_Slowing dx (fBehind v1 (.int n) v4 v5))) v3 d3 := dv_upd hp h3
    repeat' (walk_at "rd1")
    refine u_chk (by decide) h3' (fun g2 => ?_) (fun g => e (by simp [okSlowing, ofI_int, g]))
    repeat' (walk_at "rd1")
    simp only [upd_upd]
    exact q (by simp [okSlowing, ofI_int, g1, g2])
theorem ok_Once (T : Txt K mg a) : FnOk P w K mg base (CXR P w) 4 a.f_Once___init__ a.fd_Once___init__ ["self", "first", "last"] (sp2 a.C_Once a.C_NoRule okOnce fOnce) := by
  have c_check_from := cal_chk (P := P) (w := w) (base := base) T
  have c_Rule___init__ := cal_Rule (P := P) (w := w) (base := base) T T.cl_Once T.na_Once_many
  have cl := T.cl_Once
  have n1 := T.na_Once_first; have n2 := T.na_Once_last
  refine T.F_Once___init__.okR sc_Once___init__ (fun vs H Q E h => ?_) (fun cdv A outer s H vs Q E hr h => ?_)
  · obtain ⟨_, _, _, _, _, _, rfl, _⟩ := h; rfl
  · obtain ⟨p, dx, v1, v2, d1, d2, rfl, h1, h2, hp, q, e⟩ := h
    refine ⟨_, (pss_cut (ps_expr (pr_call c_check_from (hr.mono (by decide)) rfl T.mg_check_from T.kp_check_from passR (pa_cons (pv 1) (pa_cons pe_int (pa_cons pe_str pa_nil)))))
      (pss_cut (ps_if (pt_cmpR op_isN (pv 2) pe_non (nomark _))
        (pss_one (ps_set (i := 2) sc_Once___init__.nd rfl (Or.inl rfl) (pv 1)))
        pss_nil)
      (pss_cut (ps_expr (pr_call c_check_from (hr.mono (by decide)) rfl T.mg_check_from T.kp_check_from passR (pa_cons (pv 2) (pa_cons (pv 1) (pa_cons pe_str pa_nil)))))
      (pss_cut (ps_expr (pr_base rfl T.mg_Rule T.B_Rule___init__ c_Rule___init__ (hr.mono (by decide)) passR (pa_cons (pv 0) (pa_cons pe_int pa_nil))))
      (pss_cut (ps_fld (pv 0) (pv 1) rfl)
      (pss_one (ps_fld (pv 0) (pv 2) rfl))))))), ?_⟩
    repeat' (walk_at "rd1")
    refine u_chk (by decide) h1 (fun g1 => ?_) (fun g => e (by simp [okOnce, g]))
    have g1' := g1
    obtain ⟨f, rfl, hf⟩ := ge_inv g1
    obtain rfl := h1.int_inv
    cases d2 with
    | none =>
      obtain rfl := h2.non_inv
      repeat' (walk_at "rd1")
      refine u_chk (by decide) (Dv.int f) (fun g2 => ?_) (fun g => absurd g (by rw [geD_int, decide_eq_true (Int.le_refl f)]; decide))
      repeat' (walk_at "rd1")
      refine u_rule (Dv.int 1) hp (fun g4 => ?_) (fun g => by cases g)
      repeat' (walk_at "rd1")
      simp only [upd_upd]
      exact q (by simp [okOnce, g1', lastD])
    | int l =>
      obtain rfl := h2.int_inv
      repeat' (walk_at "rd1")
      refine u_chk (by decide) (Dv.int l) (fun g2 => ?_) (fun g => e (by simp [okOnce, lastD_int', ofI_int, g]))
      repeat' (walk_at "rd1")
      refine u_rule (Dv.int 1) hp (fun g4 => ?_) (fun g => by cases g)
      repeat' (walk_at "rd1")
      simp only [upd_upd]
      exact q (by simp [okOnce, g1', lastD_int', ofI_int, g2])
    | _ =>
      repeat' (walk_at "rd1")
      all_goals first | exact u_chk (by decide) h2 (fun g => by cases g) (fun g => e (by simp [okOnce, lastD, geD])) | (rename_i hb; subst hb; cases h2)
theorem ok_Each (T : Txt K mg a) : FnOk P w K mg base (CXR P w) 4 a.f_Each___init__ a.fd_Each___init__ ["self", "start", "step", "wide", "many"] (sp4 a.C_Each a.C_NoRule okEach fEach) := by
  have c_check_from := cal_chk (P := P) (w := w) (base := base) T
  have c_Rule___init__ := cal_Rule (P := P) (w := w) (base := base) T T.cl_Each T.na_Each_many
  have cl := T.cl_Each
  have n1 := T.na_Each_start; have n2 := T.na_Each_step; have n3 := T.na_Each_wide
  refine T.F_Each___init__.okR sc_Each___init__ (fun vs H Q E h => ?_) (fun cdv A outer s H vs Q E hr h => ?_)
  · obtain ⟨_, _, _, _, _, _, _, _, _, _, rfl, _⟩ := h; rfl
  · obtain ⟨p, dx, v1, v2, v3, v4, d1, d2, d3, d4, rfl, h1, h2, h3, h4, hp, q, e⟩ := h
    refine ⟨_, (pss_cut (ps_expr (pr_call c_check_from (hr.mono (by decide)) rfl T.mg_check_from T.kp_check_from passR (pa_cons (pv 1) (pa_cons pe_int (pa_cons pe_str pa_nil)))))
      (pss_cut (ps_expr (pr_call c_check_from (hr.mono (by decide)) rfl T.mg_check_from T.kp_check_from passR (pa_cons (pv 2) (pa_cons pe_int (pa_cons pe_str pa_nil)))))
      (pss_cut (ps_expr (pr_call c_check_from (hr.mono (by decide)) rfl T.mg_check_from T.kp_check_from passR (pa_cons (pv 3) (pa_cons pe_int (pa_cons pe_str pa_nil)))))
      (pss_cut (ps_if (pt_cmpR op_ge (pv 3) (pv 2) (nomark _))
        (pss_one (ps_raise raiseR rfl (pa_cons pe_str pa_nil) rfl T.mg_NoRule T.x_NoRule))
        pss_nil)
      (pss_cut (ps_expr (pr_base rfl T.mg_Rule T.B_Rule___init__ c_Rule___init__ (hr.mono (by decide)) passR (pa_cons (pv 0) (pa_cons (pv 4) pa_nil))))
      (pss_cut (ps_fld (pv 0) (pv 1) rfl)
      (pss_cut (ps_fld (pv 0) (pv 2) rfl)
      (pss_one (ps_fld (pv 0) (pv 3) rfl))))))))), ?_⟩
    repeat' (walk_at "rd1")
    refine u_chk (by decide) h1 (fun g1 => ?_) (fun g => e (by simp [okEach, g]))
    repeat' (walk_at "rd1")
    refine u_chk (by decide) h2 (fun g2 => ?_) (fun g => e (by simp [okEach, g]))
    repeat' (walk_at "rd1")
    refine u_chk (by decide) h3 (fun g3 => ?_) (fun g => e (by simp [okEach, g]))
    have g2' := g2; have g3' := g3
    obtain ⟨st, rfl, hst⟩ := ge_inv g2
    obtain rfl := h2.int_inv
    obtain ⟨wd, rfl, hwd⟩ := ge_inv g3
    obtain rfl := h3.int_inv
    repeat' (walk_at "rd1")
    · exact e (by rw [okEach, ofI_int, geD_int st wd, decide_eq_true (by assumption)]; simp) _
    · refine u_rule h4 hp (fun g4 => ?_) (fun g => e (by simp [okEach, g]))
      repeat' (walk_at "rd1")
      simp only [upd_upd]
      exact q (by rw [okEach, ofI_int, geD_int st wd, decide_eq_false (by assumption), g1, g2', g3', g4]; rfl)
theorem cal_Once_2 (T : Txt K mg a) : CalR P w K mg base 4 a.f_Once___init__ ["self", "first", "last"] [] (sp2 a.C_Once a.C_NoRule okOnce fOnce) := ⟨⟨_, _, ok_Once T, T.F_Once___init__.binds fun _ _ _ _ _ _ s us kx hl => by
  obtain ⟨o, n, h1, h2⟩ := T.D_Once___init__.ex
  have hl : us.length = 3 := by simp at hl; omega
  match us, hl with
  | [_, _, _], _ => exact PySem.W.binds_K kx rfl h1 h2 rfl rfl, .nil⟩⟩
theorem cal_Each_4 (T : Txt K mg a) : CalR P w K mg base 4 a.f_Each___init__ ["self", "start", "step", "wide", "many"] [] (sp4 a.C_Each a.C_NoRule okEach fEach) := ⟨⟨_, _, ok_Each T, T.F_Each___init__.binds fun _ _ _ _ _ _ s us kx hl => by
  obtain ⟨o, n, h1, h2⟩ := T.D_Each___init__.ex
  have hl : us.length = 5 := by simp at hl; omega
  match us, hl with
  | [_, _, _, _, _], _ => exact PySem.W.binds_K kx rfl h1 h2 rfl rfl, .nil⟩⟩
theorem cal_Behind_4 (T : Txt K mg a) : CalR P w K mg base 4 a.f_Behind___init__ ["self", "start", "gap", "wide", "many"] [] (sp4 a.C_Behind a.C_NoRule okBehind fBehind) := ⟨⟨_, _, ok_Behind T T.cl_Behind T.na_Behind_many T.na_Behind_start T.na_Behind_gap T.na_Behind_wide, b_Behind_4 T, .nil⟩⟩
theorem cal_Slowing_5 (T : Txt K mg a) : CalR P w K mg base 5 a.f_Slowing___init__ ["self", "start", "gap", "most", "wide", "many"] [] (sp5 a.C_Slowing a.C_NoRule okSlowing fSlowing) := ⟨⟨_, _, ok_Slowing T, T.F_Slowing___init__.binds fun _ _ _ _ _ _ s us kx hl => by
  obtain ⟨o, n, h1, h2⟩ := T.D_Slowing___init__.ex
  have hl : us.length = 6 := by simp at hl; omega
  match us, hl with
  | [_, _, _, _, _, _], _ => exact PySem.W.binds_K kx rfl h1 h2 rfl rfl, .nil⟩⟩
def LD (H : Hp) (p : Addr) (ds : List PyData) : Prop := ∃ xs, H p = some (.lst xs) ∧ Dvs H xs ds
theorem LD.keeps {H H' : Hp} {p : Addr} {ds : List PyData} (s : Same H H') (h : LD H p ds) : LD H' p ds := let ⟨xs, e, d⟩ := h; ⟨xs, s _ _ e, d.keeps s⟩
theorem LD.dv {H : Hp} {p : Addr} {ds : List PyData} (h : LD H p ds) : Dv H (.ref p) (.list ds) := let ⟨_, e, d⟩ := h; .lst (.inl e) d
theorem ld_upd {H : Hp} {p : Addr} {xs : List V} {ds : List PyData} (hn : H p = none) (d : Dvs H xs ds) : LD (upd H p (.lst xs)) p ds := ⟨xs, upd_same, d.keeps (same_upd hn)⟩
theorem r_takeD {H : Hp} {Q : VK} {v : V} {ds : List PyData} {j : Int} (h0 : 0 ≤ j) (hp : Dv H v (.list ds)) (k : ∀ q H', Same H H' → LD H' q (ds.take j.toNat) → Q (.ref q) H') : rSlL K v none (some j) H Q := by
  obtain ⟨n, rfl⟩ := Int.eq_ofNat_of_zero_le h0
  obtain ⟨p, xs, rfl, e, dv⟩ := hp.lst_inv
  refine ⟨p, xs, rfl, e K, fun q hq => ?_⟩
  rw [cut_to]
  exact k q _ (same_upd hq) (ld_upd hq (dv.take n))
theorem r_dropD {H : Hp} {Q : VK} {v : V} {ds : List PyData} {j : Int} (h0 : 0 ≤ j) (hp : Dv H v (.list ds)) (k : ∀ q H', Same H H' → LD H' q (ds.drop j.toNat) → Q (.ref q) H') : rSlL K v (some j) none H Q := by
  obtain ⟨n, rfl⟩ := Int.eq_ofNat_of_zero_le h0
  obtain ⟨p, xs, rfl, e, dv⟩ := hp.lst_inv
  refine ⟨p, xs, rfl, e K, fun q hq => ?_⟩
  rw [cut_from]
  exact k q _ (same_upd hq) (ld_upd hq (dv.drop n))
theorem r_catD {H : Hp} {Q : VK} {p q : Addr} {ds es : List PyData} (hp : LD H p ds) (hq : LD H q es) (hl : ds.length + es.length ≤ 4000) (k : ∀ r H', Same H H' → LD H' r (ds ++ es) → Q (.ref r) H') : rCat (.ref p) (.ref q) H Q := by
  obtain ⟨xs, e, dv⟩ := hp
  obtain ⟨zs, e2, dv2⟩ := hq
  refine ⟨p, q, xs, zs, rfl, rfl, e, e2, by rw [dv.length, dv2.length]; exact small hl, fun r hr => ?_⟩
  exact k r _ (same_upd hr) (ld_upd hr (dv.append dv2))
theorem r_lstX {H : Hp} {Q : VK} {xs : List V} {ds : List PyData} (hl : xs.length ≤ sizeLine) (hd : Dvs H xs ds) (k : ∀ p H2, Same H H2 → LD H2 p ds → Q (.ref p) H2) : LstP xs H Q := r_lstE hl hd fun p H2 s _ e d _ => k p H2 s ⟨xs, e, d⟩
theorem r_ixAny {H : Hp} {Q : VK} {v : V} {ds : List PyData} {i : Int} (hp : Dv H v (.list ds)) (h0 : 0 ≤ i) (h1 : i < ds.length) (h : ∀ d ∈ ds, ∀ x, Dv H x d → Q x H) : rIxK K v (.int i) H Q := by
  obtain ⟨m, rfl⟩ := Int.eq_ofNat_of_zero_le h0
  have hi : m < ds.length := by omega
  exact r_ixD (.inr hp) (atI_nat (List.getElem?_eq_getElem hi)) (got_any fun x hx => h _ (List.getElem_mem hi) x hx)
theorem r_ixAt {H : Hp} {Q : VK} {v : V} {ds : List PyData} {i : Int} {d : PyData} (hp : Dv H v (.list ds)) (h0 : 0 ≤ i) (h1 : ds[i.toNat]? = some d) (h : ∀ x, Dv H x d → Q x H) : rIxK K v (.int i) H Q := by
  obtain ⟨m, rfl⟩ := Int.eq_ofNat_of_zero_le h0
  exact r_ixD (.inr hp) (atI_nat h1) (got_any h)
theorem r_ixNs {H : Hp} {Q : VK} {v : V} {ls : List Int} {i : Int} (hp : Dv H v (.list (ls.map PyData.int))) (h0 : 0 ≤ i) (h1 : i < ls.length) (h : Q (.int (ls.getD i.toNat 0)) H) : rIxK K v (.int i) H Q := by
  obtain ⟨m, rfl⟩ := Int.eq_ofNat_of_zero_le h0
  have hi : m < ls.length := by omega
  refine r_ixD (d := .int (ls.getD m 0)) (.inr hp) (atI_nat (by rw [List.getElem?_map, List.getElem?_eq_getElem hi]; simp [List.getD_eq_getElem?_getD, hi])) (got_int h)
theorem set_cut {e : PyData} : ∀ {ds : List PyData} {m : Nat}, m < ds.length → ds.take m ++ [e] ++ ds.drop (m + 1) = ds.set m e
  | _ :: _, 0, _ => rfl
  | d :: ds, m + 1, h => by
    have := set_cut (e := e) (ds := ds) (m := m) (by simpa using h)
    simpa using this
local macro_rules | `(tactic| walk_at "ld") => `(tactic| first
  | assumption
  | (refine' LD.keeps ?s ?m; (case s => assumption); (case m => walk_at "ld"))
  | fail)
local macro_rules | `(tactic| walk_at "dat") => `(tactic| first
  | (refine' LD.dv ?m; (case m => walk_at "ld"))
  | fail)
local macro_rules | `(tactic| walk_at "rd1") => `(tactic| first
  | ((with_reducible refine' r_lstX ?e1 ?e2 (fun _ _ _ _ => ?_)); (case e1 => exact len64 rfl); (case e2 => walk_at "dats"))
  | ((with_reducible refine' r_takeD ?e1 ?e2 (fun _ _ _ _ => ?_)); (case e1 => omega); (case e2 => walk_at "dat"))
  | ((with_reducible refine' r_dropD ?e1 ?e2 (fun _ _ _ _ => ?_)); (case e1 => omega); (case e2 => walk_at "dat"))
  | ((with_reducible refine' r_catD ?e1 ?e2 ?e3 (fun _ _ _ _ => ?_)); (case e1 => walk_at "ld"); (case e2 => walk_at "ld"); (case e3 => (simp only [List.length_append, List.length_take, List.length_drop, List.length_cons, List.length_nil]; omega)))
  | fail)
def sp_numbers (K : PySem.W.Frag) : Sp := fun vs H Q _ => ∃ (k : Int) (l : Addr) (ns : List Int), vs = [.int k, .ref l] ∧ SqL K H l (ns.map V.int) ∧ 0 ≤ k ∧ k < 4 ∧ ∀ v' H' s g ds, Same H H' → Dv H' v' (.list ds) → Good k s g ds → Q v' H'
theorem u_numbers {H : Hp} {Q : VK} {E : XK} {k : Int} {l : Addr} {ns : List Int} (h : SqL K H l (ns.map V.int)) (h0 : 0 ≤ k) (h1 : k < 4) (q : ∀ v' H' s g ds, Same H H' → Dv H' v' (.list ds) → Good k s g ds → Q v' H') : sp_numbers K [.int k, .ref l] H Q E := ⟨k, l, ns, rfl, h, h0, h1, q⟩
theorem ok_numbers (T : Txt K mg a) : FnOk P w K mg base CX0 2 a.f__law_numbers a.fd__law_numbers ["_law_kind", "_law_script"] (sp_numbers K) := by
  have c__law_cell_at := cal_law_cell_at (P := P) (w := w) (base := base) T
  have c__law_number := cal_law_number (P := P) (w := w) (base := base) T
  refine T.F__law_numbers.ok sc__law_numbers (fun vs H Q E h => ?_) (fun cdv A outer s H vs Q E hr h => ?_)
  · obtain ⟨_, _, _, rfl, _⟩ := h; rfl
  · obtain ⟨k, l, ns, rfl, hl, h0, h1, q⟩ := h
    refine ⟨_, (pss_cut (ps_set (i := 2) sc__law_numbers.nd rfl (Or.inl rfl) (pn_call c__law_number (hr.mono (by decide)) rfl T.mg__law_number T.kp__law_number (pa_cons (pn_call c__law_cell_at (hr.mono (by decide)) rfl T.mg__law_cell_at T.kp__law_cell_at (pa_cons (pv 1) (pa_cons pe_int pa_nil))) pa_nil)))
      (pss_cut (ps_set (i := 3) sc__law_numbers.nd rfl (Or.inl rfl) (pe_op op_add pe_int (pn_call c__law_number (hr.mono (by decide)) rfl T.mg__law_number T.kp__law_number (pa_cons (pn_call c__law_cell_at (hr.mono (by decide)) rfl T.mg__law_cell_at T.kp__law_cell_at (pa_cons (pv 1) (pa_cons pe_int pa_nil))) pa_nil))))
      (pss_cut (ps_set (i := 4) sc__law_numbers.nd rfl (Or.inl rfl) (pn_call c__law_number (hr.mono (by decide)) rfl T.mg__law_number T.kp__law_number (pa_cons (pn_call c__law_cell_at (hr.mono (by decide)) rfl T.mg__law_cell_at T.kp__law_cell_at (pa_cons (pv 1) (pa_cons pe_int pa_nil))) pa_nil)))
      (pss_cut (ps_set (i := 5) sc__law_numbers.nd rfl (Or.inl rfl) pe_non)
      (pss_cut (ps_if (pt_cmpR (op_eqA hr.hu8) (pe_op op_modP (pn_call c__law_cell_at (hr.mono (by decide)) rfl T.mg__law_cell_at T.kp__law_cell_at (pa_cons (pv 1) (pa_cons pe_int pa_nil))) pe_int) pe_int (nomark _))
        (pss_one (ps_set (i := 5) sc__law_numbers.nd rfl (Or.inl rfl) (pe_op op_add pe_int (pn_call c__law_number (hr.mono (by decide)) rfl T.mg__law_number T.kp__law_number (pa_cons (pe_op op_fdivB (pn_call c__law_cell_at (hr.mono (by decide)) rfl T.mg__law_cell_at T.kp__law_cell_at (pa_cons (pv 1) (pa_cons pe_int pa_nil))) pe_int) pa_nil)))))
        pss_nil)
      (pss_cut (ps_if (pt_cmpR (op_eqA hr.hu8) (pv 0) pe_int (nomark _))
        (pss_one (ps_ret (pe_lstD (pa_cons (pv 2) (pa_cons (pe_op op_add (pv 2) (pv 4)) pa_nil)))))
        pss_nil)
      (pss_cut (ps_if (pt_cmpR (op_eqA hr.hu8) (pv 0) pe_int (nomark _))
        (pss_one (ps_ret (pe_lstD (pa_cons (pv 2) (pa_cons (pv 3) (pa_cons (pe_op op_modP (pv 4) (pv 3)) (pa_cons (pv 5) pa_nil)))))))
        pss_nil)
      (pss_cut (ps_if (pt_cmpR (op_eqA hr.hu8) (pv 0) pe_int (nomark _))
        (pss_one (ps_ret (pe_lstD (pa_cons (pv 2) (pa_cons (pv 3) (pa_cons (pv 4) (pa_cons (pv 5) pa_nil)))))))
        pss_nil)
      (pss_one (ps_ret (pe_lstD (pa_cons (pv 2) (pa_cons (pv 3) (pa_cons (pe_op op_add (pv 3) (pn_call c__law_number (hr.mono (by decide)) rfl T.mg__law_number T.kp__law_number (pa_cons (pn_call c__law_cell_at (hr.mono (by decide)) rfl T.mg__law_cell_at T.kp__law_cell_at (pa_cons (pv 1) (pa_cons pe_int pa_nil))) pa_nil))) (pa_cons (pv 4) (pa_cons (pv 5) pa_nil)))))))))))))))), ?_⟩
    repeat' (walk_at "rd1")
    all_goals
      rename_i p H2 sm ld
      first
        | exact q _ _ _ 1 _ (by walk_at "same") ld.dv ⟨by omega, by omega, .inl ⟨by omega, _, by omega, rfl⟩⟩
        | exact q _ _ _ _ _ (by walk_at "same") ld.dv ⟨by omega, by omega, .inr (.inl ⟨by omega, _, _, by omega, by omega, .inl rfl, rfl⟩)⟩
        | exact q _ _ _ _ _ (by walk_at "same") ld.dv ⟨by omega, by omega, .inr (.inl ⟨by omega, _, _, by omega, by omega, .inr ⟨_, rfl, by omega⟩, rfl⟩)⟩
        | exact q _ _ _ _ _ (by walk_at "same") ld.dv ⟨by omega, by omega, .inr (.inr (.inl ⟨by omega, _, _, by omega, .inl rfl, rfl⟩))⟩
        | exact q _ _ _ _ _ (by walk_at "same") ld.dv ⟨by omega, by omega, .inr (.inr (.inl ⟨by omega, _, _, by omega, .inr ⟨_, rfl, by omega⟩, rfl⟩))⟩
        | exact q _ _ _ _ _ (by walk_at "same") ld.dv ⟨by omega, by omega, .inr (.inr (.inr ⟨by omega, _, _, _, by omega, by omega, .inl rfl, rfl⟩))⟩
        | exact q _ _ _ _ _ (by walk_at "same") ld.dv ⟨by omega, by omega, .inr (.inr (.inr ⟨by omega, _, _, _, by omega, by omega, .inr ⟨_, rfl, by omega⟩, rfl⟩))⟩
theorem cal_numbers (T : Txt K mg a) : Cal P w K mg base 2 a.f__law_numbers ["_law_kind", "_law_script"] [] (sp_numbers K) :=
  ⟨⟨_, _, ok_numbers T, T.F__law_numbers.binds fun _ _ _ _ _ _ => .all fun us hl => match us, hl with | [_, _], _ => rfl, .nil⟩⟩
def lsK (k s g : Int) : List Int := if k = 0 then [0, s] else if k = 3 then [0, 1, g, 0, 1] else [0, 1, 0, 1]
theorem lsK_len (k s g : Int) : (lsK k s g).length = lenK k := by
  unfold lsK lenK
  split
  · rfl
  · split <;> rfl
def sp_leasts : Sp := fun vs H Q _ => ∃ k s g v ds, vs = [.int k, v] ∧ Dv H v (.list ds) ∧ Good k s g ds ∧ ∀ v' H', Same H H' → Dv H' v' (.list ((lsK k s g).map .int)) → Q v' H'
theorem u_leasts {H : Hp} {Q : VK} {E : XK} {k s g : Int} {v : V} {ds : List PyData} (h : Dv H v (.list ds)) (hg : Good k s g ds) (q : ∀ v' H', Same H H' → Dv H' v' (.list ((lsK k s g).map .int)) → Q v' H') : sp_leasts [.int k, v] H Q E := ⟨k, s, g, v, ds, rfl, h, hg, q⟩
theorem ok_leasts (T : Txt K mg a) : FnOk P w K mg base CX0 1 a.f__law_leasts a.fd__law_leasts ["_law_kind", "_law_some"] sp_leasts := by
  refine T.F__law_leasts.ok sc__law_leasts (fun vs H Q E h => ?_) (fun cdv A outer s H vs Q E hr h => ?_)
  · obtain ⟨_, _, _, _, _, rfl, _⟩ := h; rfl
  · obtain ⟨k, st, g, v, ds, rfl, hd, hg, q⟩ := h
    refine ⟨_, (pss_cut (ps_if (pt_cmpR (op_eqA hr.hu8) (pv 0) pe_int (nomark _))
        (pss_one (ps_ret (pe_lstD (pa_cons pe_int (pa_cons (pe_ix ix_K (pv 1) pe_int (fun _ _ => rfl)) pa_nil)))))
        pss_nil)
      (pss_cut (ps_if (pt_cmpR (op_eqA hr.hu8) (pv 0) pe_int (nomark _))
        (pss_one (ps_ret (pe_lstD (pa_cons pe_int (pa_cons pe_int (pa_cons (pe_ix ix_K (pv 1) pe_int (fun _ _ => rfl)) (pa_cons pe_int (pa_cons pe_int pa_nil))))))))
        pss_nil)
      (pss_one (ps_ret (pe_lstD (pa_cons pe_int (pa_cons pe_int (pa_cons pe_int (pa_cons pe_int pa_nil))))))))), ?_⟩
    obtain ⟨_, _, ⟨rfl, _, _, rfl⟩ | ⟨rfl, _, _, _, _, _, rfl⟩ | ⟨rfl, _, _, _, _, rfl⟩ | ⟨rfl, _, _, _, _, _, _, rfl⟩⟩ := hg
    all_goals
      repeat' (walk_at "rd1")
      exact q _ _ (by walk_at "same") (by walk_at "dat")
theorem cal_leasts (T : Txt K mg a) : Cal P w K mg base 1 a.f__law_leasts ["_law_kind", "_law_some"] [] sp_leasts :=
  ⟨⟨_, _, ok_leasts T, T.F__law_leasts.binds fun _ _ _ _ _ _ => .all fun us hl => match us, hl with | [_, _], _ => rfl, .nil⟩⟩
theorem bad_of {k s g : Int} {ds : List PyData} {m : Nat} {e : PyData} (h : Good k s g ds) (hm : m < ds.length) (he : geD ((lsK k s g).getD m 0) e = false) (hn : 0 < m → m + 1 = ds.length → e ≠ .none) : Bad k s g m e := by
  obtain ⟨h1, h2, ⟨rfl, w, hw, rfl⟩ | ⟨rfl, w, m', hw, hg, hm', rfl⟩ | ⟨rfl, w, m', hw, hm', rfl⟩ | ⟨rfl, o, w, m', ho, hw, hm', rfl⟩⟩ := h
  · match m, hm with
    | 0, _ => exact he
    | 1, _ => exact ⟨hn (by decide) rfl, he⟩
  · match m, hm with
    | 0, _ => exact he
    | 1, _ => exact he
    | 2, _ => exact .inl he
    | 3, _ => exact ⟨hn (by decide) rfl, he⟩
  · match m, hm with
    | 0, _ => exact he
    | 1, _ => exact he
    | 2, _ => exact he
    | 3, _ => exact ⟨hn (by decide) rfl, he⟩
  · match m, hm with
    | 0, _ => exact he
    | 1, _ => exact he
    | 2, _ => exact he
    | 3, _ => exact he
    | 4, _ => exact ⟨hn (by decide) rfl, he⟩
def sp_spoiled : Sp := fun vs H Q _ => ∃ (k s g c : Int) (v : V) (ds : List PyData), vs = [.int k, v, .int c] ∧ Dv H v (.list ds) ∧ Good k s g ds ∧ ∀ v' H' e, Same H H' → Dv H' v' (.list (ds.set (c % ds.length).toNat e)) → Bad k s g (c % ds.length).toNat e → Q v' H'
theorem u_spoiled {H : Hp} {Q : VK} {E : XK} {k s g c : Int} {v : V} {ds : List PyData} (h : Dv H v (.list ds)) (hg : Good k s g ds) (q : ∀ v' H' e, Same H H' → Dv H' v' (.list (ds.set (c % ds.length).toNat e)) → Bad k s g (c % ds.length).toNat e → Q v' H') : sp_spoiled [.int k, v, .int c] H Q E := ⟨k, s, g, c, v, ds, rfl, h, hg, q⟩
theorem ok_spoiled (T : Txt K mg a) : FnOk P w K mg base CX0 2 a.f__law_spoiled a.fd__law_spoiled ["_law_kind", "_law_some", "_law_cell"] sp_spoiled := by
  have c__law_leasts := cal_leasts (P := P) (w := w) (base := base) T
  have c__law_number := cal_law_number (P := P) (w := w) (base := base) T
  refine T.F__law_spoiled.ok sc__law_spoiled (fun vs H Q E h => ?_) (fun cdv A outer s H vs Q E hr h => ?_)
  · obtain ⟨_, _, _, _, _, _, rfl, _⟩ := h; rfl
  · obtain ⟨k, st, g, c, v, ds, rfl, hd, hg, q⟩ := h
    refine ⟨_, (pss_cut (ps_set (i := 3) sc__law_spoiled.nd rfl (Or.inl rfl) (pe_op op_modP (pv 2) (pe_callB call_lenK rfl T.no_len PySem.boot_len (pa_cons (pv 1) pa_nil))))
      (pss_cut (ps_set (i := 4) sc__law_spoiled.nd rfl (Or.inl rfl) (pe_op op_modP (pe_op op_fdivB (pv 2) pe_int) pe_int))
      (pss_cut (ps_set (i := 5) sc__law_spoiled.nd rfl (Or.inl rfl) (pn_call c__law_number (hr.mono (by decide)) rfl T.mg__law_number T.kp__law_number (pa_cons (pe_op op_fdivB (pv 2) pe_int) pa_nil)))
      (pss_cut (ps_set (i := 6) sc__law_spoiled.nd rfl (Or.inl rfl) (pe_ix ix_K (pn_call c__law_leasts (hr.mono (by decide)) rfl T.mg__law_leasts T.kp__law_leasts (pa_cons (pv 0) (pa_cons (pv 1) pa_nil))) (pv 3) (fun _ _ => rfl)))
      (pss_cut (ps_set (i := 7) sc__law_spoiled.nd rfl (Or.inl rfl) pe_non)
      (pss_cut (ps_if (PW.pt (pw_and (pt_cmpR op_gt (pv 3) pe_int (nomark _)) (pw_and1 (pt_cmpR (op_eqA hr.hu8) (pv 3) (pe_op op_sub (pe_callB call_lenK rfl T.no_len PySem.boot_len (pa_cons (pv 1) pa_nil)) pe_int) (nomark _)))))
        (pss_one (ps_set (i := 7) sc__law_spoiled.nd rfl (Or.inl rfl) pe_str))
        pss_nil)
      (pss_cut (ps_set (i := 8) sc__law_spoiled.nd rfl (Or.inl rfl) (pe_lstD (pa_cons (pe_op op_sub (pv 6) pe_int) (pa_cons (pe_op op_sub (pe_op op_sub (pv 6) pe_int) (pv 5)) (pa_cons (pe_callTy call_strI rfl T.no_str PyProof.Rows.boot_str (pa_cons (pv 5) pa_nil)) (pa_cons pe_bl (pa_cons pe_bl (pa_cons (pe_lstD (pa_cons (pv 5) pa_nil)) (pa_cons (pv 7) (pa_cons (pe_op op_sub (pv 6) pe_int) pa_nil))))))))))
      (pss_cut (ps_if (PW.pt (pw_and (pt_cmpR (op_eqA hr.hu8) (pv 0) pe_int (nomark _)) (pw_and (pt_cmpR (op_eqA hr.hu8) (pv 3) pe_int (nomark _)) (pw_and1 (pt_cmpR op_gt (pv 4) pe_int (nomark _))))))
        (pss_one (ps_ret (pe_op op_cat (pe_op op_cat (pe_slice sl_list (pv 1) po_none (po_some (pv 3))) (pe_lstD (pa_cons (pe_op op_add (pe_ix ix_K (pv 1) pe_int (fun _ _ => rfl)) (pe_ix ix_K (pe_lstD (pa_cons pe_int (pa_cons (pv 5) pa_nil))) (pe_op op_modP (pv 4) pe_int) (fun _ _ => rfl))) pa_nil))) (pe_slice sl_list (pv 1) (po_some (pe_op op_add (pv 3) pe_int)) po_none))))
        pss_nil)
      (pss_one (ps_ret (pe_op op_cat (pe_op op_cat (pe_slice sl_list (pv 1) po_none (po_some (pv 3))) (pe_lstD (pa_cons (pe_ix ix_K (pv 8) (pv 4) (fun _ _ => rfl)) pa_nil))) (pe_slice sl_list (pv 1) (po_some (pe_op op_add (pv 3) pe_int)) po_none)))))))))))), ?_⟩
    have hl := hg.len
    have hl2 : 2 ≤ ds.length ∧ ds.length ≤ 5 := by
      rw [hl]; unfold lenK
      split
      · decide
      · split <;> decide
    have hll : (lsK k st g).length = ds.length := (lsK_len k st g).trans hl.symm
    repeat' (walk_at "rd1")
    have hg1 : k = 1 → ds[(1 : Int).toNat]? = some (.int g) := fun e => by
      obtain ⟨_, _, ⟨rfl, _⟩ | ⟨rfl, _, _, _, _, _, rfl⟩ | ⟨rfl, _⟩ | ⟨rfl, _⟩⟩ := hg
      · cases e
      · rfl
      · cases e
      · cases e
    have hmn : (c % ds.length + 1).toNat = (c % ds.length).toNat + 1 := by
      have := Int.emod_nonneg c (show (ds.length : Int) ≠ 0 by omega)
      omega
    have hml : (c % ds.length).toNat < ds.length := by
      have := Int.emod_nonneg c (show (ds.length : Int) ≠ 0 by omega)
      have := Int.emod_lt_of_pos c (show (0 : Int) < ds.length by omega)
      omega
    refine u_leasts hd hg (fun v1 H1 s1 hv1 => ?_)
    repeat' (walk_at "rd1")
    all_goals first
      | (refine r_ixAt (d := .int g) (by walk_at "dat") (by decide) (hg1 (by assumption)) (fun x hx => ?_)
         obtain rfl := hx.int_inv
         repeat' (walk_at "rd1")
         refine r_ixAny (by walk_at "dat") (by omega) (by simp only [List.length_cons, List.length_nil]; omega) (fun d hdm x hx => ?_)
         have hy : ∃ y, d = .int y ∧ 0 ≤ y := by
           simp only [List.mem_cons, List.not_mem_nil, or_false] at hdm
           rcases hdm with rfl | rfl <;> exact ⟨_, rfl, by omega⟩
         obtain ⟨y, rfl, hy0⟩ := hy
         obtain rfl := hx.int_inv
         repeat' (walk_at "rd1")
         rename_i p H2 sm ld
         have hdv := ld.dv
         rw [hmn, set_cut hml] at hdv
         refine q _ _ _ (by walk_at "same") hdv ?_
         have hk1 : k = 1 := by assumption
         have hm2 : c % ds.length = 2 := by assumption
         rw [hk1, hm2]
         exact .inr (decide_eq_true (by omega)))
      | (refine r_ixAny (by walk_at "dat") (by omega) (by simp only [List.length_cons, List.length_nil]; omega) (fun d hdm x hx => ?_)
         have hbad : Bad k st g (c % ds.length).toNat d := by
           simp only [List.mem_cons, List.not_mem_nil, or_false, show (default : Int) = 0 from rfl] at hdm
           rcases hdm with rfl | rfl | rfl | rfl | rfl | rfl | rfl | rfl <;> refine bad_of hg hml ?_ (fun h1 h2 => ?_) <;> first | rfl | exact decide_eq_false (by omega) | (intro z; cases z; done) | (exfalso; omega)
         repeat' (walk_at "rd1")
         rename_i p H2 sm ld
         have hdv := ld.dv
         rw [hmn, set_cut hml] at hdv
         exact q _ _ _ (by walk_at "same") hdv hbad)
theorem cal_spoiled (T : Txt K mg a) : Cal P w K mg base 2 a.f__law_spoiled ["_law_kind", "_law_some", "_law_cell"] [] sp_spoiled :=
  ⟨⟨_, _, ok_spoiled T, T.F__law_spoiled.binds fun _ _ _ _ _ _ => .all fun us hl => match us, hl with | [_, _, _], _ => rfl, .nil⟩⟩
def RuleIs (K : PySem.W.Frag) (R : Addr) (H : Hp) (v : V) : Prop := ∃ C fs, Ins H v C fs ∧ Cls K C ∧ TyCls K C ∧ PySem.W.kitOne K (.ref C) (.ref R) = some true
def sp_made (K : PySem.W.Frag) (a : Ad) : Sp := fun vs H Q E => ∃ (k : Int) (v : V) (ds : List PyData), vs = [.int k, v] ∧ 0 ≤ k ∧ k < 4 ∧ ds.length = lenK k ∧ Dv H v (.list ds) ∧ (okM k ds = true → ∀ v' H', Same H H' → RuleIs K a.C_Rule H' v' → Q v' H') ∧ (okM k ds = false → ∀ H2, E (.ref a.C_NoRule) none H2)
theorem ok_made (T : Txt K mg a) : FnOk P w K mg base (CXR P w) 7 a.f__law_made a.fd__law_made ["_law_kind", "_law_some"] (sp_made K a) := by
  have c_Once_2 := cal_Once_2 (P := P) (w := w) (base := base) T
  have c_Each_4 := cal_Each_4 (P := P) (w := w) (base := base) T
  have c_Behind_4 := cal_Behind_4 (P := P) (w := w) (base := base) T
  have c_Slowing_5 := cal_Slowing_5 (P := P) (w := w) (base := base) T
  refine T.F__law_made.okR sc__law_made (fun vs H Q E h => ?_) (fun cdv A outer s H vs Q E hr h => ?_)
  · obtain ⟨_, _, _, rfl, _⟩ := h; rfl
  · obtain ⟨k, v, ds, rfl, h0, h1, hl, hd, q, e⟩ := h
    refine ⟨_, (pss_cut (ps_if (pt_cmpR (op_eqA hr.hu8) (pv 0) pe_int (nomark _))
        (pss_one (ps_ret (pr_make T.M_Once c_Once_2 (hr.mono (by decide)) rfl T.mg_Once passR (pa_cons (pe_ix ix_K (pv 1) pe_int (fun _ _ => rfl)) (pa_cons (pe_ix ix_K (pv 1) pe_int (fun _ _ => rfl)) pa_nil)))))
        pss_nil)
      (pss_cut (ps_if (pt_cmpR (op_eqA hr.hu8) (pv 0) pe_int (nomark _))
        (pss_one (ps_ret (pr_make T.M_Each c_Each_4 (hr.mono (by decide)) rfl T.mg_Each passR (pa_cons (pe_ix ix_K (pv 1) pe_int (fun _ _ => rfl)) (pa_cons (pe_ix ix_K (pv 1) pe_int (fun _ _ => rfl)) (pa_cons (pe_ix ix_K (pv 1) pe_int (fun _ _ => rfl)) (pa_cons (pe_ix ix_K (pv 1) pe_int (fun _ _ => rfl)) pa_nil)))))))
        pss_nil)
      (pss_cut (ps_if (pt_cmpR (op_eqA hr.hu8) (pv 0) pe_int (nomark _))
        (pss_one (ps_ret (pr_make T.M_Behind c_Behind_4 (hr.mono (by decide)) rfl T.mg_Behind passR (pa_cons (pe_ix ix_K (pv 1) pe_int (fun _ _ => rfl)) (pa_cons (pe_ix ix_K (pv 1) pe_int (fun _ _ => rfl)) (pa_cons (pe_ix ix_K (pv 1) pe_int (fun _ _ => rfl)) (pa_cons (pe_ix ix_K (pv 1) pe_int (fun _ _ => rfl)) pa_nil)))))))
        pss_nil)
      (pss_one (ps_ret (pr_make T.M_Slowing c_Slowing_5 (hr.mono (by decide)) rfl T.mg_Slowing passR (pa_cons (pe_ix ix_K (pv 1) pe_int (fun _ _ => rfl)) (pa_cons (pe_ix ix_K (pv 1) pe_int (fun _ _ => rfl)) (pa_cons (pe_ix ix_K (pv 1) pe_int (fun _ _ => rfl)) (pa_cons (pe_ix ix_K (pv 1) pe_int (fun _ _ => rfl)) (pa_cons (pe_ix ix_K (pv 1) pe_int (fun _ _ => rfl)) pa_nil))))))))))), ?_⟩
    have hk : k = 0 ∨ k = 1 ∨ k = 2 ∨ k = 3 := by omega
    rcases hk with rfl | rfl | rfl | rfl
    · match ds, hl with
      | [d1, d2], _ =>
        repeat' (walk_at "rd1")
        exact r_make2 rfl (by assumption) (by assumption) (fun o v' H2 sm i => q o _ _ (by walk_at "same") ⟨_, _, i, T.cl_Once, T.ty_Once, T.is_Once_Rule⟩) (fun o => e o)
    · match ds, hl with
      | [d1, d2, d3, d4], _ =>
        repeat' (walk_at "rd1")
        exact r_make4 rfl (by assumption) (by assumption) (by assumption) (by assumption) (fun o v' H2 sm i => q o _ _ (by walk_at "same") ⟨_, _, i, T.cl_Each, T.ty_Each, T.is_Each_Rule⟩) (fun o => e o)
    · match ds, hl with
      | [d1, d2, d3, d4], _ =>
        repeat' (walk_at "rd1")
        exact r_make4 rfl (by assumption) (by assumption) (by assumption) (by assumption) (fun o v' H2 sm i => q o _ _ (by walk_at "same") ⟨_, _, i, T.cl_Behind, T.ty_Behind, T.is_Behind_Rule⟩) (fun o => e o)
    · match ds, hl with
      | [d1, d2, d3, d4, d5], _ =>
        repeat' (walk_at "rd1")
        exact r_make5 rfl (by assumption) (by assumption) (by assumption) (by assumption) (by assumption) (fun o v' H2 sm i => q o _ _ (by walk_at "same") ⟨_, _, i, T.cl_Slowing, T.ty_Slowing, T.is_Slowing_Rule⟩) (fun o => e o)
theorem cal_made (T : Txt K mg a) : CalR P w K mg base 7 a.f__law_made ["_law_kind", "_law_some"] [] (sp_made K a) :=
  ⟨⟨_, _, ok_made T, T.F__law_made.binds fun _ _ _ _ _ _ => .all fun us hl => match us, hl with | [_, _], _ => rfl, .nil⟩⟩
theorem dvs_bl {H : Hp} {b : Bool} : ∀ {n : Nat} {xs : List V}, Dvs H xs (List.replicate n (.bool b)) → ∀ x ∈ xs, x = .bl b
  | 0, _, .nil => fun _ hx => nomatch hx
  | n + 1, _, .cons h r => fun x hx => by
    rcases List.mem_cons.mp hx with rfl | hx
    · exact h.bl_inv
    · exact dvs_bl (n := n) r x hx
def sp_refused : Sp := fun vs H Q _ => ∃ (k : Int) (v : V) (ds : List PyData), vs = [.int k, v] ∧ 0 ≤ k ∧ k < 4 ∧ ds.length = lenK k ∧ Dv H v (.list ds) ∧ okM k ds = false ∧ ∀ H', Q (.bl true) H'
theorem ok_refused (T : Txt K mg a) : FnOk P w K mg base CX0 8 a.f__law_refused a.fd__law_refused ["_law_kind", "_law_some"] sp_refused := by
  have c__law_made := cal_made (P := P) (w := w) (base := base) T
  have te := T.te_NoRule; have i1 := T.is_NoRule_NoRow; have i2 := T.is_NoRule_NoStretch; have i3 := T.is_NoRule_NoTime; have i4 := T.is_NoRule_NoWeight; have i5 := T.is_NoRule_NoRule; have i6 := T.is_NoRule_WakeError; have i7 := T.iv_NoRule; have hit := T.hit_NoRule_NoRule
  refine T.F__law_refused.ok sc__law_refused (fun vs H Q E h => ?_) (fun cdv A outer s H vs Q E hr h => ?_)
  · obtain ⟨_, _, _, rfl, _⟩ := h; rfl
  · obtain ⟨k, v, ds, rfl, h0, h1, hl, hd, ho, q⟩ := h
    refine ⟨_, (pss_cut (ps_tryG (i := 3) (fun _ _ _ hP => (pss_one (ps_expr (pr_call c__law_made (hr.mono (by decide)) rfl T.mg__law_made T.kp__law_made hP (pa_cons (pv 0) (pa_cons (pv 1) pa_nil))))))
        (fun ae => (pss_cut (ps_forH (a := ae) (pe_lstD (pa_cons (pe_callB (call_isiEK (K := K) rfl) rfl T.no_isinstance PyProof.Rows.boot_isinstance (pa_cons (pv 3) (pa_cons (pe_glob (v := .ref a.C_NoRow) rfl T.mg_NoRow rfl) pa_nil))) (pa_cons (pe_callB (call_isiEK (K := K) rfl) rfl T.no_isinstance PyProof.Rows.boot_isinstance (pa_cons (pv 3) (pa_cons (pe_glob (v := .ref a.C_NoStretch) rfl T.mg_NoStretch rfl) pa_nil))) (pa_cons (pe_callB (call_isiEK (K := K) rfl) rfl T.no_isinstance PyProof.Rows.boot_isinstance (pa_cons (pv 3) (pa_cons (pe_glob (v := .ref a.C_NoTime) rfl T.mg_NoTime rfl) pa_nil))) (pa_cons (pe_callB (call_isiEK (K := K) rfl) rfl T.no_isinstance PyProof.Rows.boot_isinstance (pa_cons (pv 3) (pa_cons (pe_glob (v := .ref a.C_NoWeight) rfl T.mg_NoWeight rfl) pa_nil))) pa_nil))))) (pg_name (i := 2) sc__law_refused.nd rfl (Or.inl rfl))
          (pss_one (ps_if (pt_truthK (K := K) rfl (pv 2) (fun _ => rfl))
            (pss_one (ps_ret pe_bl))
            pss_nil)))
        (pss_one (ps_ret (pe_and (pe_callB (call_isiEK (K := K) rfl) rfl T.no_isinstance PyProof.Rows.boot_isinstance (pa_cons (pv 3) (pa_cons (pe_glob (v := .ref a.C_NoRule) rfl T.mg_NoRule rfl) pa_nil))) (pe_and (pe_callB (call_isiEK (K := K) rfl) rfl T.no_isinstance PyProof.Rows.boot_isinstance (pa_cons (pv 3) (pa_cons (pe_glob (v := .ref a.C_WakeError) rfl T.mg_WakeError rfl) pa_nil))) (pe_one (pe_callB (call_isiEK (K := K) rfl) rfl T.no_isinstance PyProof.Rows.boot_isinstance (pa_cons (pv 3) (pa_cons (pe_bltn (v := .ty "ValueError") rfl T.no_ValueError boot_ValueError rfl) pa_nil)))))))))) (cl_two rfl T.mg_NoRule T.x_NoRule rfl T.mg_WakeError T.x_WakeError) sc__law_refused.nd rfl rfl rfl rfl rfl)
      (pss_one (ps_ret pe_bl))), ?_⟩
    repeat' (walk_at "rd1")
    refine ⟨k, v, ds, rfl, h0, h1, hl, hd, fun o => (by rw [ho] at o; cases o), fun _ H1 => ⟨_, rfl, hit, fun ae ha => ?_⟩⟩
    have hH : upd H1 ae (.ext (isE ae a.C_NoRule)) ae = some (.ext (isE ae a.C_NoRule)) := upd_same
    generalize upd H1 ae (.ext (isE ae a.C_NoRule)) = H2 at *
    repeat' (walk_at "rd1")
    rename_i p H3 sm3 ld
    obtain ⟨xs, hp, hds⟩ := ld
    have hxs := dvs_bl (n := 4) hds
    refine forL_same (i := 2) (SqL.of hp) (fun j σ' => ∃ z, σ' = [none, none, z, some (.ref ae)]) ⟨none, rfl⟩ ?_ ?_
    · rintro j x σ' H' hx ⟨z, rfl⟩ hsm
      obtain rfl := hxs x (List.mem_of_getElem? hx)
      repeat' (walk_at "rd1")
      exact ⟨⟨_, rfl⟩, by walk_at "same"⟩
    · rintro σ' H' ⟨z, rfl⟩ hsm
      refine And.intro ?_ ⟨_, by walk_at "at"⟩
      repeat' (walk_at "rd1")
      exact q _
theorem cal_refused (T : Txt K mg a) : Cal P w K mg base 8 a.f__law_refused ["_law_kind", "_law_some"] [] sp_refused :=
  ⟨⟨_, _, ok_refused T, T.F__law_refused.binds fun _ _ _ _ _ _ => .all fun us hl => match us, hl with | [_, _], _ => rfl, .nil⟩⟩
theorem Good.set {k s g : Int} {ds : List PyData} (h : Good k s g ds) (i : Nat) (e : PyData) : (ds.set i e).length = lenK k := by rw [List.length_set]; exact h.len
theorem ok_law (T : Txt K mg a) : FnOk P w K mg base CX0 9 a.f_law a.fd_law ["_law_script"] (sp_law K) := by
  have c__law_cell_at := cal_law_cell_at (P := P) (w := w) (base := base) T
  have c__law_numbers := cal_numbers (P := P) (w := w) (base := base) T
  have c__law_spoiled := cal_spoiled (P := P) (w := w) (base := base) T
  have c__law_made := cal_made (P := P) (w := w) (base := base) T
  have c__law_refused := cal_refused (P := P) (w := w) (base := base) T
  refine T.F_law.ok sc_law (fun vs H Q E h => ?_) (fun cdv A outer s H vs Q E hr h => ?_)
  · obtain ⟨_, _, rfl, _⟩ := h; rfl
  · obtain ⟨l, ns, rfl, hl, hn, q⟩ := h
    refine ⟨_, (pss_cut (ps_set (i := 1) sc_law.nd rfl (Or.inl rfl) (pe_op op_modP (pn_call c__law_cell_at (hr.mono (by decide)) rfl T.mg__law_cell_at T.kp__law_cell_at (pa_cons (pv 0) (pa_cons pe_int pa_nil))) pe_int))
      (pss_cut (ps_set (i := 2) sc_law.nd rfl (Or.inl rfl) (pn_call c__law_numbers (hr.mono (by decide)) rfl T.mg__law_numbers T.kp__law_numbers (pa_cons (pv 1) (pa_cons (pv 0) pa_nil))))
      (pss_cut (ps_set (i := 3) sc_law.nd rfl (Or.inl rfl) (pv 2))
      (pss_cutM (ps_if (pt_cmpR op_gt (pe_op op_modP (pn_call c__law_cell_at (hr.mono (by decide)) rfl T.mg__law_cell_at T.kp__law_cell_at (pa_cons (pv 0) (pa_cons pe_int pa_nil))) pe_int) pe_int (nomark _))
        (pss_one (ps_set (i := 3) sc_law.nd rfl (Or.inl rfl) (pn_call c__law_spoiled (hr.mono (by decide)) rfl T.mg__law_spoiled T.kp__law_spoiled (pa_cons (pv 1) (pa_cons (pv 2) (pa_cons (pn_call c__law_cell_at (hr.mono (by decide)) rfl T.mg__law_cell_at T.kp__law_cell_at (pa_cons (pv 0) (pa_cons pe_int pa_nil))) pa_nil))))))
        pss_nil)
      (pss_cutM (ps_if (pt_cmpR (op_eqA hr.hu8) (pe_op op_modP (pn_call c__law_cell_at (hr.mono (by decide)) rfl T.mg__law_cell_at T.kp__law_cell_at (pa_cons (pv 0) (pa_cons pe_int pa_nil))) pe_int) pe_int (nomark _))
        (pss_cut (ps_set (i := 4) sc_law.nd rfl (Or.inl rfl) (pe_op op_modP (pn_call c__law_cell_at (hr.mono (by decide)) rfl T.mg__law_cell_at T.kp__law_cell_at (pa_cons (pv 0) (pa_cons pe_int pa_nil))) (pe_callB call_lenK rfl T.no_len PySem.boot_len (pa_cons (pv 3) pa_nil))))
        (pss_cut (ps_set (i := 5) sc_law.nd rfl (Or.inl rfl) (pn_call c__law_spoiled (hr.mono (by decide)) rfl T.mg__law_spoiled T.kp__law_spoiled (pa_cons (pv 1) (pa_cons (pv 2) (pa_cons (pn_call c__law_cell_at (hr.mono (by decide)) rfl T.mg__law_cell_at T.kp__law_cell_at (pa_cons (pv 0) (pa_cons pe_int pa_nil))) pa_nil)))))
        (pss_one (ps_set (i := 3) sc_law.nd rfl (Or.inl rfl) (pe_op op_cat (pe_op op_cat (pe_slice sl_list (pv 3) po_none (po_some (pv 4))) (pe_lstD (pa_cons (pe_ix ix_K (pv 5) (pv 4) (fun _ _ => rfl)) pa_nil))) (pe_slice sl_list (pv 3) (po_some (pe_op op_add (pv 4) pe_int)) po_none))))))
        pss_nil)
      (pss_cut (ps_set (i := 6) sc_law.nd rfl (Or.inl rfl) (pr_call c__law_made (hr.mono (by decide)) rfl T.mg__law_made T.kp__law_made passN (pa_cons (pv 1) (pa_cons (pv 2) pa_nil))))
      (pss_cut (ps_if (pt_not (pt_truth (pe_callB call_isi rfl T.no_isinstance PyProof.Rows.boot_isinstance (pa_cons (pv 6) (pa_cons (pe_glob (v := .ref a.C_Rule) rfl T.mg_Rule rfl) pa_nil))) (fun _ => rfl)))
        (pss_one (ps_ret pe_bl))
        pss_nil)
      (pss_cut (ps_if (pt_cmpR op_gt (pe_op op_modP (pn_call c__law_cell_at (hr.mono (by decide)) rfl T.mg__law_cell_at T.kp__law_cell_at (pa_cons (pv 0) (pa_cons pe_int pa_nil))) pe_int) pe_int (nomark _))
        (pss_one (ps_ret (pn_call c__law_refused (hr.mono (by decide)) rfl T.mg__law_refused T.kp__law_refused (pa_cons (pv 1) (pa_cons (pv 3) pa_nil)))))
        pss_nil)
      (pss_one (ps_ret (pe_callB call_isi rfl T.no_isinstance PyProof.Rows.boot_isinstance (pa_cons (pr_call c__law_made (hr.mono (by decide)) rfl T.mg__law_made T.kp__law_made passN (pa_cons (pv 1) (pa_cons (pv 3) pa_nil))) (pa_cons (pe_glob (v := .ref a.C_Rule) rfl T.mg_Rule rfl) pa_nil))))))))))))), ?_⟩
    repeat' (walk_at "rd1")
    refine u_numbers hl (by omega) (by omega) (fun vg H1 st g ds s1 hv hg => ?_)
    have k0 : 0 ≤ cell ns (Int.toNat 0) % 4 := by omega
    have k4 : cell ns (Int.toNat 0) % 4 < 4 := by omega
    generalize cell ns (Int.toNat 0) % 4 = k at *
    have hll := hg.len
    have hl1 : SqL K H1 l (ns.map V.int) := by walk_at "sql"
    have hl2 : 2 ≤ ds.length ∧ ds.length ≤ 5 := by
      rw [hll]; unfold lenK
      split
      · decide
      · split <;> decide
    have hix : ∀ c : Int, 0 ≤ c % ds.length ∧ (c % ds.length).toNat < ds.length ∧ (c % ds.length + 1).toNat = (c % ds.length).toNat + 1 := fun c => by
      have := Int.emod_nonneg c (show (ds.length : Int) ≠ 0 by omega)
      have := Int.emod_lt_of_pos c (show (0 : Int) < ds.length by omega)
      omega
    repeat' (walk_at "rd1")
    refine r_cutM (fun σ' H2 => Same H1 H2 ∧ ∃ (v : V) (xs : List PyData), Dv H2 v (.list xs) ∧ xs.length = ds.length ∧ (cell ns (Int.toNat 6) % 3 = 0 → xs = ds) ∧ (0 < cell ns (Int.toNat 6) % 3 → ∃ i e, i < ds.length ∧ Bad k st g i e ∧ xs = ds.set i e) ∧ σ' = [some (.ref l), some (.int k), some vg, some v, none, none, none]) ?_ ?_
    · repeat' (walk_at "rd1")
      · refine u_spoiled hv hg (fun v' H' e sm hd' hb => ?_)
        repeat' (walk_at "rd1")
        exact ⟨by walk_at "same", v', _, hd', List.length_set, fun z => by omega, fun _ => ⟨_, _, (hix _).2.1, hb, rfl⟩, rfl⟩
      · exact ⟨Same.refl _, vg, ds, hv, rfl, fun _ => rfl, fun z => by omega, rfl⟩
    rintro σ' H2 ⟨sm2, v, xs, hxs, hxl, hz, hp, rfl⟩
    have hv2 : Dv H2 vg (.list ds) := by walk_at "dat"
    have hl2' : SqL K H2 l (ns.map V.int) := by walk_at "sql"
    refine r_cutM (fun σ' H3 => Same H2 H3 ∧ ∃ (v : V) (xs : List PyData) (z4 z5 : Option V), Dv H3 v (.list xs) ∧ xs.length = lenK k ∧ (cell ns (Int.toNat 6) % 3 = 0 → xs = ds) ∧ (0 < cell ns (Int.toNat 6) % 3 → okM k xs = false) ∧ σ' = [some (.ref l), some (.int k), some vg, some v, z4, z5, none]) ?_ ?_
    · repeat' (walk_at "rd1")
      · refine u_spoiled hv2 hg (fun v' H' e sm hd' hb => ?_)
        repeat' (walk_at "rd1")
        have hi := hix (cell ns (Int.toNat 8))
        rw [← hxl] at hi hd' hb
        refine r_ixAt (d := e) (by walk_at "dat") hi.1 (by rw [List.getElem?_set_self (by rw [← hxl]; exact hi.2.1)]) (fun x hx => ?_)
        repeat' (walk_at "rd1")
        rename_i p H5 sm5 ld
        have hdv := ld.dv
        rw [hi.2.2, set_cut hi.2.1] at hdv
        obtain ⟨i, e1, hi1, hb1, rfl⟩ := hp (by omega)
        refine ⟨by walk_at "same", _, _, _, _, hdv, by rw [List.length_set, List.length_set]; exact hll, fun z => by omega, fun _ => ?_, rfl⟩
        exact bad2 hg hi1 (Nat.lt_of_lt_of_eq hi.2.1 hxl) hb1 hb
      · refine ⟨Same.refl _, v, xs, none, none, hxs, hxl.trans hll, hz, fun z => ?_, rfl⟩
        obtain ⟨i, e, hi, hb, rfl⟩ := hp z
        exact bad1 hg hi hb
    rintro σ' H3 ⟨sm3, v3, ys, z4, z5, hys, hyl, hz3, ho3, rfl⟩
    have hv3 : Dv H3 vg (.list ds) := by walk_at "dat"
    have hl3 : SqL K H3 l (ns.map V.int) := by walk_at "sql"
    repeat' (walk_at "rd1")
    refine ⟨k, vg, ds, rfl, k0, k4, hll, hv3, fun _ v4 H4 sm4 ⟨C, fs, hi, cl, ty, is⟩ => ?_, fun o => by rw [hg.ok] at o; cases o⟩
    repeat' (walk_at "rd1")
    · exact ⟨k, v3, ys, rfl, k0, k4, hyl, by walk_at "dat", ho3 (by assumption), q⟩
    · obtain rfl := hz3 (by omega)
      refine ⟨k, v3, ys, rfl, k0, k4, hyl, by walk_at "dat", fun _ v5 H5 sm5 ⟨C, fs, hi, cl, ty, is⟩ => ?_, fun o => by rw [hg.ok] at o; cases o⟩
      repeat' (walk_at "rd1")
      exact q _
end
end My
open PySem PySem.W PyProof.Rows
theorem PySem.W.Fast.tw11024515317547644537 : True := trivial
theorem PySem.W.Fast.tw6949549797515684533 : True := trivial
theorem PySem.W.Fast.tw17798941302613757782 : True := trivial
theorem PySem.W.Fast.tw4844251597536564013 : True := trivial
set_option maxRecDepth 100000 in
set_option maxHeartbeats 0 in
theorem PySem.Challenge.cw_wakefew_k06_rules_refused_holds : PySem.Challenge.rw_wakefew_k06_rules_refused.Holds := by
  w_on; o_law; k_head; (case hw => w_witness2)
  k_fill
  refine L2.walk_ofK (l := PySem.Challenge.rw_wakefew_k06_rules_refused) (n := 63) (k := 14) (x := "_law_script") (CX := L2.CX0) (sp := My.sp_law) rfl (by decide) rfl ⟨rfl, by decide, by decide⟩ (fun w h Y => PySem.W.kIn_of Y) ?F ?S ?C
  case F =>
    intro w mg fa h KX G hmg
    have T : ∃ a : My.Ad, a.f_law = a.f_law ∧ My.Txt (L2.KOf KX) mg a := by
      dsimp only [L2.KOf]
      refine' My.txt_mk KX G ?aC_Rule ?aC_Once ?aC_Each ?aC_Behind ?aC_Slowing ?aC_NoRow ?aC_NoRule ?aC_NoStretch ?aC_NoTime ?aC_NoWeight ?aC_WakeError ?hgg ?htt ?a_is_whole ?l_is_whole ?c_is_whole ?k_is_whole ?a_check_from ?l_check_from ?c_check_from ?k_check_from ?a_Rule___init__ ?l_Rule___init__ ?c_Rule___init__ ?k_Rule___init__ ?i_Rule___init__ ?a_Once___init__ ?l_Once___init__ ?c_Once___init__ ?k_Once___init__ ?i_Once___init__ ?t_Once___init__ ?a_Each___init__ ?l_Each___init__ ?c_Each___init__ ?k_Each___init__ ?i_Each___init__ ?t_Each___init__ ?a_Behind___init__ ?l_Behind___init__ ?c_Behind___init__ ?k_Behind___init__ ?i_Behind___init__ ?t_Behind___init__ ?a_Slowing___init__ ?l_Slowing___init__ ?c_Slowing___init__ ?k_Slowing___init__ ?i_Slowing___init__ ?t_Slowing___init__ ?a__law_cell_at ?l__law_cell_at ?c__law_cell_at ?k__law_cell_at ?a__law_number ?l__law_number ?c__law_number ?k__law_number ?a__law_numbers ?l__law_numbers ?c__law_numbers ?k__law_numbers ?a__law_leasts ?l__law_leasts ?c__law_leasts ?k__law_leasts ?a__law_spoiled ?l__law_spoiled ?c__law_spoiled ?k__law_spoiled ?a__law_made ?l__law_made ?c__law_made ?k__law_made ?a__law_refused ?l__law_refused ?c__law_refused ?k__law_refused ?a_law ?l_law ?c_law ?k_law ?pg_Rule ?hd_Rule ?po_Rule ?sa_Rule ?mk_Rule ?kc_Rule ?t1_Rule ?t2_Rule ?t3_Rule ?is_Rule_Rule ?pg_Once ?hd_Once ?po_Once ?sa_Once ?na_Once_many ?na_Once_first ?na_Once_last ?mk_Once ?kc_Once ?t1_Once ?t2_Once ?t3_Once ?is_Once_Rule ?pg_Each ?hd_Each ?po_Each ?sa_Each ?na_Each_many ?na_Each_start ?na_Each_step ?na_Each_wide ?mk_Each ?kc_Each ?t1_Each ?t2_Each ?t3_Each ?is_Each_Rule ?pg_Behind ?hd_Behind ?po_Behind ?sa_Behind ?na_Behind_many ?na_Behind_start ?na_Behind_gap ?na_Behind_wide ?mk_Behind ?kc_Behind ?t1_Behind ?t2_Behind ?t3_Behind ?is_Behind_Rule ?pg_Slowing ?hd_Slowing ?po_Slowing ?sa_Slowing ?na_Slowing_many ?na_Slowing_start ?na_Slowing_gap ?na_Slowing_wide ?na_Slowing_most ?mk_Slowing ?kc_Slowing ?t1_Slowing ?t2_Slowing ?t3_Slowing ?is_Slowing_Rule ?x_NoRow ?t2_NoRow ?t3_NoRow ?x_NoRule ?t2_NoRule ?t3_NoRule ?x_NoStretch ?t2_NoStretch ?t3_NoStretch ?x_NoTime ?t2_NoTime ?t3_NoTime ?x_NoWeight ?t2_NoWeight ?t3_NoWeight ?x_WakeError ?t2_WakeError ?t3_WakeError ?ga_NoRule ?gn_NoRule ?mb_NoRule ?hd_NoRule ?t1_NoRule ?vv_NoRule ?is_NoRule_NoRow ?nq_NoRule_NoRow ?is_NoRule_NoRule ?is_NoRule_NoStretch ?nq_NoRule_NoStretch ?is_NoRule_NoTime ?nq_NoRule_NoTime ?is_NoRule_NoWeight ?nq_NoRule_NoWeight ?is_NoRule_WakeError ?b1_Behind___init__ ?b2_Behind___init__ ?b3_Behind___init__ ?b1_Rule___init__ ?b2_Rule___init__ ?b3_Rule___init__ ?no_ValueError ?no_bool ?no_int ?no_isinstance ?no_len ?no_str
      (case aC_Rule => k_is)
      (case aC_Once => k_is)
      (case aC_Each => k_is)
      (case aC_Behind => k_is)
      (case aC_Slowing => k_is)
      (case aC_NoRow => k_is)
      (case aC_NoRule => k_is)
      (case aC_NoStretch => k_is)
      (case aC_NoTime => k_is)
      (case aC_NoWeight => k_is)
      (case aC_WakeError => k_is)
      (case hgg => k_is)
      (case htt => k_is)
      (case a_is_whole => k_is)
      (case l_is_whole => k_is)
      (case c_is_whole => k_is)
      (case k_is_whole => k_is)
      (case a_check_from => k_is)
      (case l_check_from => k_is)
      (case c_check_from => k_is)
      (case k_check_from => k_is)
      (case a_Rule___init__ => k_is)
      (case l_Rule___init__ => k_is)
      (case c_Rule___init__ => k_is)
      (case k_Rule___init__ => k_is)
      (case i_Rule___init__ => k_is)
      (case a_Once___init__ => k_is)
      (case l_Once___init__ => k_is)
      (case c_Once___init__ => k_is)
      (case k_Once___init__ => k_is)
      (case i_Once___init__ => k_is)
      (case t_Once___init__ => k_is)
      (case a_Each___init__ => k_is)
      (case l_Each___init__ => k_is)
      (case c_Each___init__ => k_is)
      (case k_Each___init__ => k_is)
      (case i_Each___init__ => k_is)
      (case t_Each___init__ => k_is)
      (case a_Behind___init__ => k_is)
      (case l_Behind___init__ => k_is)
      (case c_Behind___init__ => k_is)
      (case k_Behind___init__ => k_is)
      (case i_Behind___init__ => k_is)
      (case t_Behind___init__ => k_is)
      (case a_Slowing___init__ => k_is)
      (case l_Slowing___init__ => k_is)
      (case c_Slowing___init__ => k_is)
      (case k_Slowing___init__ => k_is)
      (case i_Slowing___init__ => k_is)
      (case t_Slowing___init__ => k_is)
      (case a__law_cell_at => k_is)
      (case l__law_cell_at => k_is)
      (case c__law_cell_at => k_is)
      (case k__law_cell_at => k_is)
      (case a__law_number => k_is)
      (case l__law_number => k_is)
      (case c__law_number => k_is)
      (case k__law_number => k_is)
      (case a__law_numbers => k_is)
      (case l__law_numbers => k_is)
      (case c__law_numbers => k_is)
      (case k__law_numbers => k_is)
      (case a__law_leasts => k_is)
      (case l__law_leasts => k_is)
      (case c__law_leasts => k_is)
      (case k__law_leasts => k_is)
      (case a__law_spoiled => k_is)
      (case l__law_spoiled => k_is)
      (case c__law_spoiled => k_is)
      (case k__law_spoiled => k_is)
      (case a__law_made => k_is)
      (case l__law_made => k_is)
      (case c__law_made => k_is)
      (case k__law_made => k_is)
      (case a__law_refused => k_is)
      (case l__law_refused => k_is)
      (case c__law_refused => k_is)
      (case k__law_refused => k_is)
      (case a_law => k_is)
      (case l_law => k_is)
      (case c_law => k_is)
      (case k_law => k_is)
      (case pg_Rule => k_is)
      (case hd_Rule => k_is)
      (case po_Rule => k_is)
      (case sa_Rule => k_is)
      (case mk_Rule => k_is)
      (case kc_Rule => k_is)
      (case t1_Rule => k_is)
      (case t2_Rule => k_is)
      (case t3_Rule => k_is)
      (case is_Rule_Rule => k_is)
      (case pg_Once => k_is)
      (case hd_Once => k_is)
      (case po_Once => k_is)
      (case sa_Once => k_is)
      (case na_Once_many => k_is)
      (case na_Once_first => k_is)
      (case na_Once_last => k_is)
      (case mk_Once => k_is)
      (case kc_Once => k_is)
      (case t1_Once => k_is)
      (case t2_Once => k_is)
      (case t3_Once => k_is)
      (case is_Once_Rule => k_is)
      (case pg_Each => k_is)
      (case hd_Each => k_is)
      (case po_Each => k_is)
      (case sa_Each => k_is)
      (case na_Each_many => k_is)
      (case na_Each_start => k_is)
      (case na_Each_step => k_is)
      (case na_Each_wide => k_is)
      (case mk_Each => k_is)
      (case kc_Each => k_is)
      (case t1_Each => k_is)
      (case t2_Each => k_is)
      (case t3_Each => k_is)
      (case is_Each_Rule => k_is)
      (case pg_Behind => k_is)
      (case hd_Behind => k_is)
      (case po_Behind => k_is)
      (case sa_Behind => k_is)
      (case na_Behind_many => k_is)
      (case na_Behind_start => k_is)
      (case na_Behind_gap => k_is)
      (case na_Behind_wide => k_is)
      (case mk_Behind => k_is)
      (case kc_Behind => k_is)
      (case t1_Behind => k_is)
      (case t2_Behind => k_is)
      (case t3_Behind => k_is)
      (case is_Behind_Rule => k_is)
      (case pg_Slowing => k_is)
      (case hd_Slowing => k_is)
      (case po_Slowing => k_is)
      (case sa_Slowing => k_is)
      (case na_Slowing_many => k_is)
      (case na_Slowing_start => k_is)
      (case na_Slowing_gap => k_is)
      (case na_Slowing_wide => k_is)
      (case na_Slowing_most => k_is)
      (case mk_Slowing => k_is)
      (case kc_Slowing => k_is)
      (case t1_Slowing => k_is)
      (case t2_Slowing => k_is)
      (case t3_Slowing => k_is)
      (case is_Slowing_Rule => k_is)
      (case x_NoRow => k_exc)
      (case t2_NoRow => k_is)
      (case t3_NoRow => k_is)
      (case x_NoRule => k_exc)
      (case t2_NoRule => k_is)
      (case t3_NoRule => k_is)
      (case x_NoStretch => k_exc)
      (case t2_NoStretch => k_is)
      (case t3_NoStretch => k_is)
      (case x_NoTime => k_exc)
      (case t2_NoTime => k_is)
      (case t3_NoTime => k_is)
      (case x_NoWeight => k_exc)
      (case t2_NoWeight => k_is)
      (case t3_NoWeight => k_is)
      (case x_WakeError => k_exc)
      (case t2_WakeError => k_is)
      (case t3_WakeError => k_is)
      (case ga_NoRule => k_is)
      (case gn_NoRule => k_is)
      (case mb_NoRule => k_is)
      (case hd_NoRule => k_is)
      (case t1_NoRule => k_is)
      (case vv_NoRule => k_is)
      (case is_NoRule_NoRow => k_is)
      (case nq_NoRule_NoRow => decide)
      (case is_NoRule_NoRule => k_is)
      (case is_NoRule_NoStretch => k_is)
      (case nq_NoRule_NoStretch => decide)
      (case is_NoRule_NoTime => k_is)
      (case nq_NoRule_NoTime => decide)
      (case is_NoRule_NoWeight => k_is)
      (case nq_NoRule_NoWeight => decide)
      (case is_NoRule_WakeError => k_is)
      (case b1_Behind___init__ => k_is)
      (case b2_Behind___init__ => k_is)
      (case b3_Behind___init__ => k_is)
      (case b1_Rule___init__ => k_is)
      (case b2_Rule___init__ => k_is)
      (case b3_Rule___init__ => k_is)
      (case no_ValueError => k_is)
      (case no_bool => k_is)
      (case no_int => k_is)
      (case no_isinstance => k_is)
      (case no_len => k_is)
      (case no_str => k_is)
    obtain ⟨a, _, T⟩ := T
    have e0 := hmg.symm.trans T.mg_law
    cases e0
    exact ⟨a.fd_law, fun s u => My.law_binds T s u, fun base kb nb => (My.ok_law T).mono (by decide)⟩
  case S => exact fun K H l ns hl hO hS => ⟨l, ns, rfl, hS, hl, fun _ => rfl⟩
  case C => exact fun H s e s' h => h
