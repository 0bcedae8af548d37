import PyProof.Rows.All
import Wide.All
import OpenK.AllK
import Wide.FinOn
import PyProof.EqAt
import PyProof.EqKinds
import PyProof.TupleCall
import KE.BitLaws
import Open.SpecLaws
import KE.OsHead
import KE.OsGo
import PyFlatLaws
import PySem.Challenge.RW_pointdesk_s01_answers
section
set_option Elab.async false
set_option linter.all false
set_option maxRecDepth 100000
/-! THE HAND LAYER, for ints, bools, texts, own classes, lists, tuples, dicts, comprehensions, walks over dicts, enumerate, zip, reversed, texts, calls, loops. Paste it whole ahead of your own text; what your proof does not reach may be deleted. -/
namespace L2
open PySem PySem.Spec PyProof.Rows

/-- a key: an int or a str -/
abbrev Key := Sum Int Str
def keyIs : Key → Value → Bool
  | .inl k, v => Value.isInt k v
  | .inr x, v => Value.isStrOf x v
def keyH (w : World) : Key → Int
  | .inl k => hashInt k
  | .inr x => hashStr w x
theorem keyIs_shape : ∀ {k : Key} {v : Value}, keyIs k v = true → (∃ i t, k = Sum.inl i ∧ v = Value.int i t) ∨ (∃ x t, k = Sum.inr x ∧ v = Value.str x t)
  | .inl i, v, h => by
    obtain ⟨t, e⟩ := Value.isInt_shape (k := i) (v := v) h
    exact .inl ⟨i, t, rfl, e⟩
  | .inr x, v, h => by
    obtain ⟨t, e⟩ := Value.isStrOf_shape (x := x) (v := v) h
    exact .inr ⟨x, t, rfl, e⟩
theorem keyIs_int (i : Int) (t : Tok) : keyIs (.inl i) (.int i t) = true := by simp [keyIs, Value.isInt]
theorem keyIs_str (x : Str) (t : Tok) : keyIs (.inr x) (.str x t) = true := by simp [keyIs, Value.isStrOf]
theorem key_ll (a b : Int) : decide ((Sum.inl a : Key) = Sum.inl b) = (a == b) := by
  by_cases e : a = b
  · subst e; simp
  · have h : ¬ (Sum.inl a : Key) = Sum.inl b := fun q => e (Sum.inl.inj q)
    rw [decide_eq_false h]
    exact (beq_eq_false_iff_ne.mpr e).symm
theorem key_rr (a b : Str) : decide ((Sum.inr a : Key) = Sum.inr b) = decide (a = b) := by
  by_cases e : a = b
  · subst e; simp
  · have h : ¬ (Sum.inr a : Key) = Sum.inr b := fun q => e (Sum.inr.inj q)
    rw [decide_eq_false h, decide_eq_false e]
theorem key_lr (a : Int) (b : Str) : decide ((Sum.inl a : Key) = Sum.inr b) = false := decide_eq_false (fun q => nomatch q)
theorem key_rl (a : Str) (b : Int) : decide ((Sum.inr a : Key) = Sum.inl b) = false := decide_eq_false (fun q => nomatch q)

def mixKind (prog : Program) (w : World) : PySem.KeyKind prog w Key where
  is := keyIs
  hash := keyH w
  inj := fun v a b ha hb => by
    rcases keyIs_shape ha with ⟨i, t, rfl, rfl⟩ | ⟨x, t, rfl, rfl⟩
    · rcases keyIs_shape hb with ⟨j, u, rfl, e⟩ | ⟨y, u, rfl, e⟩
      · injection e with e1 _; rw [e1]
      · exact nomatch e
    · rcases keyIs_shape hb with ⟨j, u, rfl, e⟩ | ⟨y, u, rfl, e⟩
      · exact nomatch e
      · injection e with e1 _; rw [e1]
  byValue := fun k v h => by
    rcases keyIs_shape h with ⟨i, t, rfl, rfl⟩ | ⟨x, t, rfl, rfl⟩ <;> rfl
  pyHash := fun hv h => by
    rcases keyIs_shape hv with ⟨i, t, rfl, rfl⟩ | ⟨x, t, rfl, rfl⟩
    · exact wpAny_pyHash_int h
    · exact wpAny_pyHash_str h
  eqBool := fun hu hv h => by
    rcases keyIs_shape hu with ⟨i, t, rfl, rfl⟩ | ⟨x, t, rfl, rfl⟩
    · rcases keyIs_shape hv with ⟨j, u, rfl, rfl⟩ | ⟨y, u, rfl, rfl⟩
      · rw [key_ll] at h; exact wpAny_eqBool_int h
      · rw [key_lr] at h; exact SeqAt.EqAt.int_str i t y u _ _ _ _ h
    · rcases keyIs_shape hv with ⟨j, u, rfl, rfl⟩ | ⟨y, u, rfl, rfl⟩
      · rw [key_rl] at h; exact SeqAt.EqAt.str_int x t j u _ _ _ _ h
      · rw [key_rr] at h; exact wpAny_eqBool_str h
  «strs» := fun k x t v h => by
    rcases keyIs_shape h with ⟨i, u, rfl, e⟩ | ⟨y, u, rfl, e⟩
    · exact nomatch e
    · injection e with e1 _
      subst e1
      cases v <;> rfl

theorem mixKind_int (prog : Program) (w : World) (i : Int) (t : Tok) : (mixKind prog w).is (.inl i) (.int i t) = true := keyIs_int i t
theorem mixKind_str (prog : Program) (w : World) (x : Str) (t : Tok) : (mixKind prog w).is (.inr x) (.str x t) = true := keyIs_str x t
end L2

namespace L2
open PySem PySem.Spec PyProof.Rows

/-- a value, without the heap -/
inductive V where
  | non | bl (b : Bool) | int (i : Int) | str (x : Str) | byt (b : Array UInt8) | flt (b : UInt64) | ref (a : Addr) | ty (n : String)
  deriving DecidableEq

def RelV : V → Value → Prop
  | .non, u => u = Value.none
  | .bl b, u => u = Value.bool b
  | .int i, u => ∃ t, u = Value.int i t
  | .str x, u => ∃ t, u = Value.str x t
  | .byt b, u => ∃ t, u = Value.bytes b t
  | .flt b, u => ∃ t, u = Value.float b t
  | .ref a, u => u = Value.ref a
  | .ty n, u => u = Value.type n

abbrev Vals : List V → List Value → Prop := Paired RelV
theorem Vals.length {xs : List V} {us : List Value} (r : Vals xs us) : xs.length = us.length := Paired.length r
theorem Vals.get : ∀ {xs : List V} {us : List Value} {i : Nat} {x : V}, Vals xs us → xs[i]? = some x → ∃ u, us[i]? = some u ∧ RelV x u
  | _, _, _, _, .nil, e => by simp at e
  | _, _, 0, _, .cons r _, e => by simp at e; subst e; exact ⟨_, rfl, r⟩
  | _, _, i + 1, x, .cons _ t, e => by
    obtain ⟨u, h1, h2⟩ := Vals.get (i := i) (x := x) t (by simpa using e)
    exact ⟨u, by simpa using h1, h2⟩
theorem Vals.append : ∀ {xs ys : List V} {us ws : List Value}, Vals xs us → Vals ys ws → Vals (xs ++ ys) (us ++ ws)
  | _, _, _, _, .nil, s => s
  | _, _, _, _, .cons r t, s => .cons r (Vals.append t s)
theorem Vals.take : ∀ {xs : List V} {us : List Value} (n : Nat), Vals xs us → Vals (xs.take n) (us.take n)
  | _, _, 0, _ => .nil
  | _, _, _ + 1, .nil => .nil
  | _, _, n + 1, .cons r t => .cons r (Vals.take n t)
theorem Vals.drop : ∀ {xs : List V} {us : List Value} (n : Nat), Vals xs us → Vals (xs.drop n) (us.drop n)
  | _, _, 0, r => r
  | _, _, _ + 1, .nil => .nil
  | _, _, n + 1, .cons _ t => Vals.drop n t
def RelO : Option V → Option Value → Prop
  | some v, some u => RelV v u
  | none, none => True
  | _, _ => False
def KV {κ : Type} : List (κ × V) → List (κ × Value) → Prop := Paired fun (p : κ × V) (q : κ × Value) => p.1 = q.1 ∧ RelV p.2 q.2

/-- a key of a dict (00_mix): an int or a text -/
def kV : Key → V
  | .inl i => .int i
  | .inr x => .str x

/-- what stands at a tracked address -/
inductive HO where
  /-- a list -/
  | lst (xs : List V)
  /-- a tuple (never changes) -/
  | tup (xs : List V)
  /-- a dict whose keys are ints and texts; one whose keys are tuples of ints and texts (the empty one is both) -/
  | dK (kvs : List (Key × V)) | dT (kvs : List (List Key × V))
  /-- a set of ints: its members, its size -/
  | set (S : Int → Bool) (n : Nat)
  /-- an instance of the class at C, its dict at dx, its attributes -/
  | ins (C dx : Addr) (fs : List (Str × V))
  /-- the dict of the instance at x -/
  | own (x : Addr)
  /-- the dict of an exception -/
  | xd (fs : List (Str × V))
  /-- a bound method, f of x -/
  | met (f x : Addr)
  /-- a range object lo, lo + 1, .. below hi -/
  | rng (lo hi : Int)
  /-- a thing that is known to the object (the script; a dict while a loop walks it): read, never written while it is so -/
  | frz (o : Obj) (u : HO)
  /-- a code object's table -/
  | tbl (ps : Array Value)
  /-- any other thing, by what is true of its one object (a def of one's own: SetO a S n := HO.ext fun h => ..) -/
  | ext (φ : Heap → Prop)

abbrev Hp := Addr → Option HO
def upd (H : Hp) (a : Addr) (o : HO) : Hp := fun b => if b = a then some o else H b
theorem upd_same {H : Hp} {a : Addr} {o : HO} : upd H a o a = some o := by unfold upd; rw [if_pos rfl]
theorem upd_ne {H : Hp} {a b : Addr} {o : HO} (h : b ≠ a) : upd H a o b = H b := by unfold upd; rw [if_neg h]
/-- two objects of different content stand apart -/
theorem ne_of {H : Hp} {a b : Addr} {o u : HO} (h : H a = some o) (h' : H b = some u) (d : o ≠ u) : a ≠ b := by
  intro e; subst e; rw [h] at h'; exact d (Option.some.inj h')
theorem ne_of_none {H : Hp} {a b : Addr} {o : HO} (h : H a = some o) (h' : H b = none) : a ≠ b := by
  intro e; subst e; rw [h] at h'; cases h'

section
variable (P : Program) (w : World)
def ObjOk (H : Hp) (h : Heap) (a : Addr) : HO → Prop
  | .lst xs => xs.length ≤ sizeLine ∧ ∃ (its : List Value) (n : Nat), Vals xs its ∧ h.get? a = some { cls := .type "list", data := .seq its.toArray n }
  | .tup xs => xs.length ≤ sizeLine ∧ ∃ its : List Value, Vals xs its ∧ IsTup h a its.toArray
  | .dK kvs => kvs.length ≤ sizeLine ∧ (a == sysModules) = false ∧ ∃ vs, KV kvs vs ∧ h.DictOf (mixKind P w) a vs
  | .dT kvs => kvs.length ≤ sizeLine ∧ (a == sysModules) = false ∧ ∃ xs : List (List Key × Addr × Value),
      Paired (fun (p : List Key × V) (q : List Key × Addr × Value) => p.1 = q.1 ∧ H q.2.1 = some (.tup (p.1.map kV)) ∧ RelV p.2 q.2.2) kvs xs ∧
      ∃ o es ep, h.get? a = some o ∧ o.ExactDict ∧ o.data = .dict es ep ∧ es.toList = xs.map (entryOfKey (tupleKind (mixKind P w))) ∧ (xs.map (·.1)).Nodup
  | .set S n => h.SetOf (intKind P w) a S n
  | .ins C dx fs => H dx = some (.own a) ∧ fs.length ≤ 1000 ∧ dx ≠ a ∧ h.get? a = some (PySem.W.instObj C dx) ∧
      ∃ mA, h.Ns1 dx mA ∧ (∀ f, RelO (fs.lookup f) (mA f)) ∧ PySem.Within mA (fs.map (·.1))
  | .own _ => ∃ o, h.get? a = some o
  | .xd fs => ∃ mA, h.Ns1 a mA ∧ ∀ f, RelO (fs.lookup f) (mA f)
  | .rng lo hi => ∃ t u v, h.get? a = some { cls := .type "range", data := .fields #[.int lo t, .int hi u, .int 1 v] }
  | .frz o u => h.get? a = some o ∧ ObjOk H h a u
  | .tbl ps => h.get? a = some { cls := .none, data := .fields ps }
  | .met f x => h.get? a = some (PySem.W.methodObj (.ref f) (.ref x))
  | .ext φ => φ h ∧ (∃ o, h.get? a = some o) ∧ ∀ h1 h2 : Heap, φ h1 → (∀ o, h1.get? a = some o → h2.get? a = some o) → φ h2
/-- the abstract heap is held -/
def HOk (H : Hp) (h : Heap) : Prop := ∀ a o, H a = some o → ObjOk P w H h a o
end

section
variable {P : Program} {w : World} {H H' : Hp} {h h' : Heap} {a : Addr} {o : HO}
theorem ObjOk.lt (x : ObjOk P w H h a o) : a < h.objs.size := by
  cases o with
  | lst xs => obtain ⟨_, _, _, _, e⟩ := x; exact Heap.lt_size e
  | tup xs => obtain ⟨_, _, _, p⟩ := x; exact p.lt
  | dK kvs => obtain ⟨_, _, _, _, o, _, _, e, _⟩ := x; exact Heap.lt_size e
  | dT kvs => obtain ⟨_, _, _, _, o, _, _, e, _⟩ := x; exact Heap.lt_size e
  | set S n => obtain ⟨o, _, _, _, e, _⟩ := x; exact Heap.lt_size e
  | ins C dx fs => obtain ⟨_, _, _, e, _⟩ := x; exact Heap.lt_size e
  | own y => obtain ⟨_, e⟩ := x; exact Heap.lt_size e
  | xd fs => obtain ⟨_, ⟨_, _, _, e, _⟩, _⟩ := x; exact Heap.lt_size e
  | rng lo hi => obtain ⟨_, _, _, e⟩ := x; exact Heap.lt_size e
  | frz ob u => obtain ⟨e, _⟩ := x; exact Heap.lt_size e
  | tbl ps => exact Heap.lt_size (show h.get? a = some _ from x)
  | met f y => exact Heap.lt_size (show h.get? a = some _ from x)
  | ext φ => obtain ⟨_, ⟨_, e⟩, _⟩ := x; exact Heap.lt_size e
theorem Paired.mapP {α β : Type} {F G : α → β → Prop} : ∀ {l₁ : List α} {l₂ : List β}, Paired F l₁ l₂ → (∀ a b, F a b → G a b) → Paired G l₁ l₂
  | _, _, .nil, _ => .nil
  | _, _, .cons r t, f => .cons (f _ _ r) (Paired.mapP t f)
/-- what an object's description leans on: its own object, its own dict, the tuples -/
theorem ObjOk.stay (x : ObjOk P w H h a o) (k : ∀ b u, (b = a ∨ H b = some (.own a)) → h.get? b = some u → h'.get? b = some u)
    (ho : ∀ b, H b = some (.own a) → H' b = some (.own a)) (ht : ∀ b xs, H b = some (.tup xs) → H' b = some (.tup xs)) : ObjOk P w H' h' a o := by
  induction o with
  | lst xs => obtain ⟨z, its, n, r, e⟩ := x; exact ⟨z, its, n, r, k _ _ (.inl rfl) e⟩
  | tup xs => obtain ⟨z, its, r, ob, e, c⟩ := x; exact ⟨z, its, r, ob, k _ _ (.inl rfl) e, c⟩
  | dK kvs => obtain ⟨z, y, vs, r, ob, es, ep, e, c⟩ := x; exact ⟨z, y, vs, r, ob, es, ep, k _ _ (.inl rfl) e, c⟩
  | dT kvs =>
    obtain ⟨z, y, xs, r, ob, es, ep, e, c⟩ := x
    exact ⟨z, y, xs, Paired.mapP r fun p q z => ⟨z.1, ht _ _ z.2.1, z.2.2⟩, ob, es, ep, k _ _ (.inl rfl) e, c⟩
  | set S n => obtain ⟨ob, es, ep, t, e, c⟩ := x; exact ⟨ob, es, ep, t, k _ _ (.inl rfl) e, c⟩
  | ins C dx fs =>
    obtain ⟨d, z, ne, e, mA, ⟨od, es, ep, e2, c⟩, r⟩ := x
    exact ⟨ho _ d, z, ne, k _ _ (.inl rfl) e, mA, ⟨od, es, ep, k _ _ (.inr d) e2, c⟩, r⟩
  | own y => obtain ⟨ob, e⟩ := x; exact ⟨ob, k _ _ (.inl rfl) e⟩
  | xd fs => obtain ⟨mA, ⟨od, es, ep, e, c⟩, r⟩ := x; exact ⟨mA, ⟨od, es, ep, k _ _ (.inl rfl) e, c⟩, r⟩
  | rng lo hi => obtain ⟨t, u, v, e⟩ := x; exact ⟨t, u, v, k _ _ (.inl rfl) e⟩
  | frz ob u ih => obtain ⟨e, q⟩ := x; exact ⟨k _ _ (.inl rfl) e, ih q⟩
  | tbl ps =>
    have e : h.get? a = some { cls := .none, data := .fields ps } := x
    show h'.get? a = some { cls := .none, data := .fields ps }
    exact k a _ (.inl rfl) e
  | met f y =>
    have e : h.get? a = some (PySem.W.methodObj (.ref f) (.ref y)) := x
    show h'.get? a = some (PySem.W.methodObj (.ref f) (.ref y))
    exact k a _ (.inl rfl) e
  | ext φ => obtain ⟨p, ⟨o, e⟩, st⟩ := x; exact ⟨st _ _ p fun o q => k _ _ (.inl rfl) q, ⟨o, k _ _ (.inl rfl) e⟩, st⟩
theorem HOk.lt (x : HOk P w H h) (e : H a = some o) : a < h.objs.size := (x a o e).lt
theorem HOk.fresh (x : HOk P w H h) (e : h.objs.size ≤ a) : H a = none := by
  cases q : H a with
  | none => rfl
  | some u => exact absurd (Nat.lt_of_lt_of_le (x.lt q) e) (Nat.lt_irrefl _)
/-- every object of the heap is kept -/
theorem HOk.kept (x : HOk P w H h) (k : ∀ b u, h.get? b = some u → h'.get? b = some u) : HOk P w H h' := fun a o e =>
  (x a o e).stay (fun b u _ q => k b u q) (fun _ q => q) fun _ _ q => q
/-- a new object is laid and tracked -/
theorem HOk.laid (x : HOk P w H h) (k : ∀ b u, h.get? b = some u → h'.get? b = some u) (hp : h.objs.size ≤ a) (new : ObjOk P w (upd H a o) h' a o) : HOk P w (upd H a o) h' := fun b u e => by
  have hn := x.fresh hp
  by_cases hb : b = a
  · subst hb; rw [upd_same] at e; cases e; exact new
  · rw [upd_ne hb] at e
    exact (x b u e).stay (fun c v _ q => k c v q) (fun c q => by rw [upd_ne (ne_of_none q hn)]; exact q) fun c xs q => by rw [upd_ne (ne_of_none q hn)]; exact q
end

/-- what may be read as u: it is u, or a known u -/
def Rd (H : Hp) (a : Addr) (u : HO) : Prop := H a = some u ∨ ∃ o, H a = some (.frz o u)
theorem Rd.ok {P : Program} {w : World} {H : Hp} {h : Heap} {a : Addr} {u : HO} (r : Rd H a u) (x : HOk P w H h) : ObjOk P w H h a u := by
  rcases r with r | ⟨o, r⟩
  · exact x a u r
  · obtain ⟨_, q⟩ := x a _ r
    exact q
/-- what may be written -/
def Mut : Option HO → Prop
  | some (.lst _) => True
  | some (.dK _) => True
  | some (.dT _) => True
  | some (.set _ _) => True
  | some (.ins _ _ _) => True
  | some (.ext _) => True
  | _ => False
section
variable {P : Program} {w : World} {H : Hp} {h h' : Heap} {x e : Addr} {o' : HO}
/-- the object at e is changed: x itself, or the dict of the instance x -/
theorem HOk.write (ok : HOk P w H h) (mu : Mut (H x)) (he : e = x ∨ H e = some (.own x)) (k : ∀ b u, b ≠ e → h.get? b = some u → h'.get? b = some u) (heo : ∃ u, h'.get? e = some u)
    (new : ObjOk P w (upd H x o') h' x o') : HOk P w (upd H x o') h' := fun b u q => by
  have nown : ∀ c y, H c = some (.own y) → c ≠ x := fun c y r z => by subst z; rw [r] at mu; exact mu
  have ntup : ∀ c xs, H c = some (.tup xs) → c ≠ x := fun c xs r z => by subst z; rw [r] at mu; exact mu
  by_cases hb : b = x
  · subst hb; rw [upd_same] at q; cases q; exact new
  · rw [upd_ne hb] at q
    by_cases hbe : b = e
    · have q' : H b = some (.own x) := by
        rcases he with z | z
        · exact absurd (hbe.trans z) hb
        · rw [hbe]; exact z
      rw [q] at q'; cases q'
      obtain ⟨v, hv⟩ := heo
      exact ⟨v, by rw [hbe]; exact hv⟩
    · refine (ok b u q).stay (fun c v hc r => k c v ?_ r) (fun c r => by rw [upd_ne (nown c b r)]; exact r) fun c xs r => by rw [upd_ne (ntup c xs r)]; exact r
      rcases hc with rfl | hc
      · exact hbe
      · rintro rfl
        rcases he with z | z
        · exact nown c b hc z
        · rw [hc] at z; cases z; exact hb rfl
end

/-! ### kept unless tracked; of the frames at fs (the callers') the slots may change (an exception that passes writes there); of the records at ex (iterators) nothing is said -/
structure Un (fs ex : List Addr) (H H' : Hp) (h h' : Heap) : Prop where
  keep : ∀ b o, h.get? b = some o → H b = none → b ∉ fs → b ∉ ex → h'.get? b = some o
  slot : ∀ b o, h.get? b = some o → H b = none → b ∈ fs → b ∉ ex → ∃ sl, h'.get? b = some { o with slots := sl }
  free : ∀ b o, h.get? b = some o → H b = none → b ∉ ex → H' b = none
  there : ∀ b o, h.get? b = some o → b ∉ ex → ∃ o', h'.get? b = some o'
  tups : ∀ b xs, H b = some (.tup xs) → H' b = some (.tup xs)
  frzs : ∀ b o u, H b = some (.frz o u) → H' b = some (.frz o u)
  tbls : ∀ b ps, H b = some (.tbl ps) → ∃ more, H' b = some (.tbl (ps ++ more))
section
variable {fs fs' ex ex' : List Addr} {H H1 H2 : Hp} {h h1 h2 h' : Heap} {a x e : Addr} {o : HO}
theorem Un.any (u : Un fs ex H H1 h h1) {b : Addr} {ob : Obj} (q : h.get? b = some ob) (n : H b = none) (hx : b ∉ ex) : ∃ sl, h1.get? b = some { ob with slots := sl } := by
  by_cases hb : b ∈ fs
  · exact u.slot b ob q n hb hx
  · exact ⟨ob.slots, u.keep b ob q n hb hx⟩
theorem Un.kept (k : ∀ b u, h.get? b = some u → h'.get? b = some u) : Un fs ex H H h h' :=
  ⟨fun b ob q _ _ _ => k b ob q, fun b ob q _ _ _ => ⟨ob.slots, k b ob q⟩, fun _ _ _ n _ => n, fun b ob q _ => ⟨ob, k b ob q⟩, fun _ _ q => q, fun _ _ _ q => q, fun _ ps q => ⟨#[], by rw [q]; simp⟩⟩
theorem Un.refl : Un fs ex H H h h := Un.kept fun _ _ q => q
theorem Un.laid (k : ∀ b u, h.get? b = some u → h'.get? b = some u) (hp : h.objs.size ≤ a) (hn : H a = none) : Un fs ex H (upd H a o) h h' where
  keep := fun b u q _ _ _ => k b u q
  slot := fun b u q _ _ _ => ⟨u.slots, k b u q⟩
  free := fun b u q n _ => by rw [upd_ne (Nat.ne_of_lt (Nat.lt_of_lt_of_le (Heap.lt_size q) hp))]; exact n
  there := fun b u q _ => ⟨u, k b u q⟩
  tups := fun b xs q => by rw [upd_ne (ne_of_none q hn)]; exact q
  frzs := fun b u xs q => by rw [upd_ne (ne_of_none q hn)]; exact q
  tbls := fun b ps q => ⟨#[], by rw [upd_ne (ne_of_none q hn), q]; simp⟩
theorem Un.write (mu : Mut (H x)) (he : e = x ∨ H e = some (.own x)) (k : ∀ b u, b ≠ e → h.get? b = some u → h'.get? b = some u) (heo : ∃ u, h'.get? e = some u) : Un fs ex H (upd H x o) h h' := by
  have hx : ∀ b, H b = none → b ≠ x := fun b n z => by subst z; rw [n] at mu; exact mu
  have hb : ∀ b, H b = none → b ≠ e := fun b n z => by
    subst z
    rcases he with r | r
    · exact hx b n r
    · rw [n] at r; cases r
  have hm : ∀ b u, H b = some u → ¬ Mut (some u) → b ≠ x := fun b u q nm z => by subst z; rw [q] at mu; exact nm mu
  refine ⟨fun b u q n _ _ => k b u (hb b n) q, fun b u q n _ _ => ⟨u.slots, k b u (hb b n) q⟩, fun b u q n _ => by rw [upd_ne (hx b n)]; exact n, fun b u q _ => ?_,
    fun b xs q => by rw [upd_ne (hm b _ q fun z => z)]; exact q, fun b u xs q => by rw [upd_ne (hm b _ q fun z => z)]; exact q, fun b ps q => ⟨#[], by rw [upd_ne (hm b _ q fun z => z), q]; simp⟩⟩
  by_cases hbe : b = e
  · subst hbe; exact heo
  · exact ⟨u, k b u hbe q⟩
end

/-! ### the heap without what is tracked -/
def trk (h : Heap) (H : Hp) : List Addr := (List.range h.objs.size).filter fun a => (H a).isSome
def hidT (h : Heap) (H : Hp) : Heap := PySem.W.hideAll h (trk h H)
theorem hidT_size (h : Heap) (H : Hp) : (hidT h H).objs.size = h.objs.size := PySem.W.hideAll_size _ _
theorem hidT_get {h : Heap} {H : Hp} {b : Addr} {o : Obj} (e : h.get? b = some o) (n : H b = none) : (hidT h H).get? b = some o :=
  PySem.W.hideAll_get _ e fun hm => by
    have q : (H b).isSome = true := (List.mem_filter.mp hm).2
    rw [n] at q; simp at q
theorem of_hidT {h : Heap} {H : Hp} {b : Addr} {o : Obj} (e : (hidT h H).get? b = some o) : h.get? b = some o ∧ H b = none := by
  have e' : h.get? b = some o := PySem.W.of_hideAll (trk h H) e
  refine ⟨e', ?_⟩
  cases q : H b with
  | none => rfl
  | some x =>
    have hm : b ∈ trk h H := List.mem_filter.mpr ⟨List.mem_range.mpr (Heap.lt_size e'), by simp [q]⟩
    have z : (hidT h H).get? b = none := PySem.W.hideAll_none (trk h H) hm
    rw [z] at e; cases e

/-! ### OpenK's ledger, filled with every new object but one -/
end L2

namespace L2
open PySem PySem.Spec PyProof.Rows

/-- the module's facts, over the base: the heap at the law's entry without what is tracked there -/
structure Mod (K : PySem.W.Frag) (mg : Str → Option Value) (base : Heap) : Prop where
  kin : K.In base
  glob : base.Ns mainGlobals mg
  blt : ∃ mb, base.Ns builtinsNs mb ∧ ∀ x : Str, x ≠ "__name__" → mb x = bootBuiltins x
  nolimit : base.NoLimit

/-- the context: a def's body (or a comprehension's block) running. base: fixed through the whole law; s₀, H₀: the entry; outer: the frames whose slots others may change (a def's callers); stack: all frames that run;
   ex: iterators that were made ahead of the entry and are walked here (a comprehension's); fn: the names whose cells were made at the entry (a def: all; a comprehension's block: its own); calm: not within an except suite; pn: pins that every state bears; xe: what is wanted of an exception that leaves the code -/
structure Cx where
  prog : Program
  w : World
  K : PySem.W.Frag
  mg : Str → Option Value
  base : Heap
  A : Around
  N : List Str
  s_0 : Shared
  H_0 : Hp
  env : Env
  outer : List Env
  stack : List Env
  ex : List Addr
  fn : Str → Bool
  calm : Bool
  pn : List (Addr × Obj)
  xe : Value → Shared → Prop
/-- the callers' frames -/
def frs (l : List Env) : List Addr := l.filterMap (·.frame)
abbrev Cx.fs (X : Cx) : List Addr := frs X.outer

def Vis (sc : Scope) (x : Str) : Prop := sc.names.lookup x = some .local ∨ sc.names.lookup x = some .cell ∨ sc.names.lookup x = some .free
def Loc (sc : Scope) (x : Str) : Prop := sc.names.lookup x = some .local ∨ sc.names.lookup x = some .cell
def Look (env : Env) (h : Heap) (m : Str → Option Value) (x : Str) (u : Value) : Prop :=
  (env.kindOf x = some .local ∧ m x = some u) ∨ ((env.kindOf x = some .cell ∨ env.kindOf x = some .free) ∧ ∃ c, env.cells.lookup x = some c ∧ h.IsCell c (some u))

structure Cx.Ok (X : Cx) : Prop where
  mod : Mod X.K X.mg X.base
  kind : X.env.scope.kind = .function
  glob : X.env.globals = mainGlobals
  blt : X.env.builtins = builtinsNs
  above : X.s_0.heap.objs.size ≤ X.env.locals
  inj : ∀ x y c, X.env.cells.lookup x = some c → X.env.cells.lookup y = some c → x = y
  has : ∀ x, (X.env.kindOf x = some .cell ∨ X.env.kindOf x = some .free) → ∃ c, X.env.cells.lookup x = some c
  cab : ∀ x c, X.fn x = true → X.env.cells.lookup x = some c → X.s_0.heap.objs.size ≤ c
  hd : X.calm = true → X.A.handled = none
  frames : X.A.frames = some X.stack
  stk : X.stack = X.outer ∨ (X.stack = X.env :: X.outer ∧ X.env.frame = some X.env.locals)
  exf : ∀ b ∈ X.ex, b ≠ X.env.locals ∧ ∀ x c, X.env.cells.lookup x = some c → c ≠ b
  bs : ∀ b o, X.base.get? b = some o → X.s_0.heap.get? b = some o ∧ X.H_0 b = none
  bsz : X.base.objs.size ≤ X.s_0.heap.objs.size
  noex : ∀ b o, X.base.get? b = some o → b ∉ X.ex
  exfs : ∀ b ∈ X.ex, b ∉ X.fs
  funs : X.s_0.heap.FunFrames X.base X.outer
  frf : ∀ b ∈ X.fs, X.H_0 b = none

structure Inv (X : Cx) (pins : List (Addr × Obj)) (σ : List (Option V)) (H : Hp) (s : Shared) : Prop where
  ok : X.Ok
  os : s.os = X.s_0.os
  bare : AllBare s.gens
  base : Un X.fs X.ex X.H_0 H X.s_0.heap s.heap
  loc : ∃ m, s.heap.Ns X.env.locals m ∧ ∀ (i : Nat) (x : Str) (v : V), X.N[i]? = some x → σ[i]? = some (some v) → Vis X.env.scope x → ∃ u, RelV v u ∧ Look X.env s.heap m x u
  cell : ∀ x c, X.env.cells.lookup x = some c → ∃ v, s.heap.IsCell c v
  free : H X.env.locals = none
  freeC : ∀ x c, X.env.cells.lookup x = some c → H c = none
  pin : ∀ p ∈ X.pn ++ pins, s.heap.get? p.1 = some p.2 ∧ H p.1 = none ∧ p.1 ≠ X.env.locals ∧ p.1 ∉ X.fs ∧ ∀ v, p.2.data ≠ .cell v
  hok : HOk X.prog X.w H s.heap
  len : σ.length = X.N.length

section
variable {X : Cx} {pins : List (Addr × Obj)} {σ : List (Option V)} {H H' : Hp} {s : Shared} {h' : Heap}

theorem Cx.Ok.nofr (ok : X.Ok) {b : Addr} {o : Obj} (e : X.base.get? b = some o) : b ∉ X.fs := fun hb => by
  have := (ok.funs.mem hb).1
  rw [e] at this; cases this
theorem Inv.bs (I : Inv X pins σ H s) : ∀ b o, X.base.get? b = some o → s.heap.get? b = some o ∧ H b = none := fun b o e =>
  ⟨I.base.keep b o (I.ok.bs b o e).1 (I.ok.bs b o e).2 (I.ok.nofr e) (I.ok.noex b o e), I.base.free b o (I.ok.bs b o e).1 (I.ok.bs b o e).2 (I.ok.noex b o e)⟩
theorem Inv.bk (I : Inv X pins σ H s) : ∀ b o, X.base.get? b = some o → s.heap.get? b = some o := fun b o e => (I.bs b o e).1
theorem Inv.mod (I : Inv X pins σ H s) : Mod X.K X.mg X.base := I.ok.mod
theorem Inv.kIn (I : Inv X pins σ H s) : X.K.In s.heap := I.ok.mod.kin.keeps I.bk
theorem Inv.lt (I : Inv X pins σ H s) : X.env.locals < s.heap.objs.size := let ⟨_, hn, _⟩ := I.loc; hn.lt
theorem Inv.sz (I : Inv X pins σ H s) : X.s_0.heap.objs.size ≤ s.heap.objs.size := Nat.le_trans I.ok.above (Nat.le_of_lt I.lt)
theorem Inv.nofs (I : Inv X pins σ H s) {a : Addr} (h : s.heap.objs.size ≤ a) : a ∉ X.fs := fun hb => by
  obtain ⟨_, o, ho, _⟩ := I.ok.funs.mem hb
  exact absurd (Nat.lt_of_lt_of_le (Heap.lt_size ho) (Nat.le_trans I.sz h)) (Nat.lt_irrefl _)
theorem Inv.cne (I : Inv X pins σ H s) : ∀ x c, X.env.cells.lookup x = some c → c ≠ X.env.locals := fun x c e z => by
  obtain ⟨v, o, ho, hd⟩ := I.cell x c e
  obtain ⟨m, ⟨o', es, ep, ho', hd', _⟩, _⟩ := I.loc
  rw [z, ho'] at ho; cases ho; rw [hd'] at hd; cases hd
theorem Inv.funs (I : Inv X pins σ H s) : s.heap.FunFrames X.base X.outer := by
  have all : ∀ (l : List Env), (∀ b ∈ frs l, b ∈ X.fs) → X.s_0.heap.FunFrames X.base l → s.heap.FunFrames X.base l := by
    intro l
    induction l with
    | nil => intro _ _; trivial
    | cons env r ih =>
      intro hs hl
      obtain ⟨hk, ⟨L, o, hf, hn, ho, hd⟩, hr⟩ := hl
      have hL : L ∈ X.fs := hs L (by unfold frs; rw [List.filterMap_cons, hf]; exact List.mem_cons_self)
      obtain ⟨sl, e⟩ := I.base.slot L o ho (I.ok.frf L hL) hL fun z => I.ok.exfs L z hL
      exact ⟨hk, ⟨L, _, hf, hn, e, hd⟩, ih (fun b hb => hs b (by unfold frs; rw [List.filterMap_cons, hf]; exact List.mem_cons_of_mem _ hb)) hr⟩
  exact all X.outer (fun _ hb => hb) I.ok.funs

/-- the frames that run, for a call -/
theorem Inv.stack (I : Inv X pins σ H s) : s.heap.FunFrames X.base X.stack := by
  rcases I.ok.stk with e | ⟨e, hf⟩
  · rw [e]; exact I.funs
  · rw [e]
    obtain ⟨m, hn, _⟩ := I.loc
    refine .cons (by rw [I.ok.kind]; decide) hf hn ?_ I.funs
    exact Heap.get?_none_of_le (Nat.le_trans I.ok.bsz I.ok.above)
theorem Inv.stkSub (I : Inv X pins σ H s) : ∀ b ∈ frs X.stack, b ∈ X.env.locals :: X.fs := fun b hb => by
  rcases I.ok.stk with e | ⟨e, hf⟩
  · rw [e] at hb; exact List.mem_cons_of_mem _ hb
  · rw [e] at hb
    unfold frs at hb
    rw [List.filterMap_cons, hf] at hb
    exact hb
theorem Inv.stkFree (I : Inv X pins σ H s) : ∀ b ∈ frs X.stack, H b = none := fun b hb => by
  rcases List.mem_cons.mp (I.stkSub b hb) with e | hb
  · rw [e]; exact I.free
  · obtain ⟨_, o, ho, _⟩ := I.ok.funs.mem hb
    exact I.base.free b o ho (I.ok.frf b hb) fun z => I.ok.exfs b z hb

/-- THE STEP: the untracked objects but the frame and the records at ch are kept (the callers' frames up to slots), the frame's map is kept, the new abstract heap is held -/
theorem Inv.step {g' : Array GenState} {t' : Nat} {d' : Drawn} {ch : List Addr} (I : Inv X pins σ H s)
    (hch : ∀ b ∈ ch, (b ∈ X.ex ∨ X.s_0.heap.objs.size ≤ b) ∧ b ≠ X.env.locals ∧ (∀ x c, X.env.cells.lookup x = some c → c ≠ b) ∧ ∀ p ∈ X.pn ++ pins, p.1 ≠ b)
    (keep : ∀ b o, b ≠ X.env.locals → b ∉ X.fs → b ∉ ch → s.heap.get? b = some o → H b = none → h'.get? b = some o)
    (slot : ∀ b o, b ≠ X.env.locals → b ∈ X.fs → b ∉ ch → s.heap.get? b = some o → H b = none → ∃ sl, h'.get? b = some { o with slots := sl }) (free : ∀ b o, b ∉ ch → s.heap.get? b = some o → H b = none → H' b = none)
    (there : ∀ b o, b ∉ ch → s.heap.get? b = some o → ∃ o', h'.get? b = some o')
    (tups : ∀ b xs, H b = some (.tup xs) → H' b = some (.tup xs)) (frzs : ∀ b o u, H b = some (.frz o u) → H' b = some (.frz o u)) (tbls : ∀ b ps, H b = some (.tbl ps) → ∃ more, H' b = some (.tbl (ps ++ more)))
    (ns : ∀ m, s.heap.Ns X.env.locals m → h'.Ns X.env.locals m) (hok : HOk X.prog X.w H' h') (hg : AllBare g') :
    Inv X pins σ H' { s with heap := h', gens := g', drawn := d', toks := t' } := by
  have neL : ∀ b o, X.s_0.heap.get? b = some o → b ≠ X.env.locals := fun b o e => Nat.ne_of_lt (Nat.lt_of_lt_of_le (Heap.lt_size e) I.ok.above)
  have neC : ∀ b o, X.s_0.heap.get? b = some o → b ∉ X.ex → b ∉ ch := fun b o e hx hb => by
    rcases (hch b hb).1 with z | z
    · exact hx z
    · exact absurd (Nat.lt_of_lt_of_le (Heap.lt_size e) z) (Nat.lt_irrefl _)
  have cellK : ∀ x c, X.env.cells.lookup x = some c → ∀ v, s.heap.IsCell c v → h'.IsCell c v := fun x c e v ⟨o, ho, hd⟩ => by
    have nch : c ∉ ch := fun z => (hch c z).2.2.1 x c e rfl
    by_cases hc : c ∈ X.fs
    · obtain ⟨sl, q⟩ := slot c o (I.cne x c e) hc nch ho (I.freeC x c e)
      exact ⟨_, q, hd⟩
    · exact ⟨o, keep c o (I.cne x c e) hc nch ho (I.freeC x c e), hd⟩
  refine ⟨I.ok, I.os, hg, ⟨fun b o e n hb hx => ?_, fun b o e n hb hx => ?_, fun b o e n hx => ?_, fun b o e hx => ?_, fun b xs e => tups b xs (I.base.tups b xs e), fun b o xs e => frzs b o xs (I.base.frzs b o xs e), fun b ps e => ?_⟩, ?_, fun x c e => ?_, ?_, fun x c e => ?_, fun p hp => ?_, hok, I.len⟩
  · exact keep b o (neL b o e) hb (neC b o e hx) (I.base.keep b o e n hb hx) (I.base.free b o e n hx)
  · obtain ⟨sl, e1⟩ := I.base.slot b o e n hb hx
    obtain ⟨sl', e2⟩ := slot b _ (neL b o e) hb (neC b o e hx) e1 (I.base.free b o e n hx)
    exact ⟨sl', e2⟩
  · obtain ⟨o', e1⟩ := I.base.there b o e hx
    exact free b o' (neC b o e hx) e1 (I.base.free b o e n hx)
  · obtain ⟨o', e1⟩ := I.base.there b o e hx
    exact there b o' (neC b o e hx) e1
  · obtain ⟨m1, e1⟩ := I.base.tbls b ps e
    obtain ⟨m2, e2⟩ := tbls b _ e1
    exact ⟨m1 ++ m2, by rw [e2, Array.append_assoc]⟩
  · obtain ⟨m, hn, hl⟩ := I.loc
    refine ⟨m, ns m hn, fun i x v e1 e2 e3 => ?_⟩
    obtain ⟨u, r, l⟩ := hl i x v e1 e2 e3
    refine ⟨u, r, ?_⟩
    rcases l with l | ⟨k, c, e, z⟩
    · exact .inl l
    · exact .inr ⟨k, c, e, cellK x c e _ z⟩
  · obtain ⟨v, z⟩ := I.cell x c e
    exact ⟨v, cellK x c e v z⟩
  · obtain ⟨m, ⟨o, _, _, ho, _⟩, _⟩ := I.loc
    exact free _ o (fun z => (hch _ z).2.1 rfl) ho I.free
  · obtain ⟨v, o, ho, hd⟩ := I.cell x c e
    exact free c o (fun z => (hch c z).2.2.1 x c e rfl) ho (I.freeC x c e)
  · obtain ⟨e, n, ne, nf, d⟩ := I.pin p hp
    have nch : p.1 ∉ ch := fun z => (hch p.1 z).2.2.2 p hp rfl
    exact ⟨keep p.1 p.2 ne nf nch e n, free p.1 p.2 nch e n, ne, nf, d⟩
/-- .. where the frame's own object is kept too -/
theorem Inv.un {t' : Nat} (I : Inv X pins σ H s) (u : Un X.fs [] H H' s.heap h') (hok : HOk X.prog X.w H' h') : Inv X pins σ H' { s with heap := h', toks := t' } := by
  obtain ⟨m, ⟨o, es, ep, ho, r⟩, _⟩ := id I.loc
  obtain ⟨sl, hL⟩ := u.any ho I.free (by simp)
  exact I.step (g' := s.gens) (d' := s.drawn) (ch := []) (fun _ z => nomatch z) (fun b o _ hb _ e n => u.keep b o e n hb (by simp)) (fun b o _ hb _ e n => u.slot b o e n hb (by simp)) (fun b o _ e n => u.free b o e n (by simp)) (fun b o _ e => u.there b o e (by simp)) u.tups u.frzs u.tbls (fun m' hm => by
    obtain ⟨o', es', ep', ho', r'⟩ := hm
    rw [ho] at ho'; cases ho'
    exact ⟨_, es', ep', hL, r'⟩) hok I.bare
/-- behind a call (or a comprehension's block): the slots of this frame may have changed too, the records at ch may have turned -/
theorem Inv.call {g' : Array GenState} {t' : Nat} {d' : Drawn} {ch : List Addr} (I : Inv X pins σ H s) (u : Un (frs X.stack) ch H H' s.heap h') (hok : HOk X.prog X.w H' h') (hg : AllBare g')
    (hch : ∀ b ∈ ch, (b ∈ X.ex ∨ X.s_0.heap.objs.size ≤ b) ∧ b ≠ X.env.locals ∧ (∀ x c, X.env.cells.lookup x = some c → c ≠ b) ∧ ∀ p ∈ X.pn ++ pins, p.1 ≠ b) :
    Inv X pins σ H' { s with heap := h', gens := g', drawn := d', toks := t' } := by
  obtain ⟨m, ⟨o, es, ep, ho, r⟩, _⟩ := id I.loc
  obtain ⟨sl, hL⟩ := u.any ho I.free fun z => (hch _ z).2.1 rfl
  exact I.step (ch := ch) hch (fun b o hL hb hc e n => u.keep b o e n (fun z => (List.mem_cons.mp (I.stkSub b z)).elim hL hb) hc) (fun b o _ _ hc e n => u.any e n hc) (fun b o hc e n => u.free b o e n hc) (fun b o hc e => u.there b o e hc) u.tups u.frzs u.tbls (fun m' hm => by
    obtain ⟨o', es', ep', ho', r'⟩ := hm
    rw [ho] at ho'; cases ho'
    exact ⟨_, es', ep', hL, r'⟩) hok hg
/-- an untracked record of ours (an iterator) has turned -/
theorem Inv.turned {t' : Nat} {it : Addr} (I : Inv X pins σ H s) (k : ∀ b o, b ≠ it → s.heap.get? b = some o → h'.get? b = some o) (hn : H it = none) (hL : it ≠ X.env.locals)
    (h1 : it ∈ X.ex ∨ X.s_0.heap.objs.size ≤ it) (h2 : ∀ x c, X.env.cells.lookup x = some c → c ≠ it) (h3 : ∀ p ∈ X.pn ++ pins, p.1 ≠ it) : Inv X pins σ H { s with heap := h', toks := t' } := by
  have nit : ∀ b u, H b = some u → b ≠ it := fun b u e z => by rw [z, hn] at e; cases e
  refine I.step (g' := s.gens) (d' := s.drawn) (ch := [it]) (fun b hb => ?_) (fun b o _ _ hc e _ => k b o (fun z => hc (by simp [z])) e) (fun b o _ _ hc e _ => ⟨o.slots, k b o (fun z => hc (by simp [z])) e⟩) (fun _ _ _ _ n => n)
    (fun b o hc e => ⟨o, k b o (fun z => hc (by simp [z])) e⟩) (fun _ _ e => e) (fun _ _ _ e => e) (fun b ps e => ⟨#[], by rw [e]; simp⟩) (fun m hm => ?_) (fun b u e => ?_) I.bare
  · have e : b = it := by simpa using hb
    subst e
    exact ⟨h1, hL, h2, h3⟩
  · obtain ⟨o, es, ep, ho, r⟩ := hm
    exact ⟨o, es, ep, k _ o (Ne.symm hL) ho, r⟩
  · refine (I.hok b u e).stay (fun c v hc q => k c v ?_ q) (fun _ q => q) fun _ _ q => q
    rcases hc with z | z
    · rw [z]; exact nit b u e
    · exact nit c _ z
theorem Inv.tok (I : Inv X pins σ H s) (t : Nat) : Inv X pins σ H { s with toks := t } := I.un (h' := s.heap) (t' := t) Un.refl I.hok
/-- all objects kept -/
theorem Inv.kept {t' : Nat} (I : Inv X pins σ H s) (k : ∀ b u, s.heap.get? b = some u → h'.get? b = some u) : Inv X pins σ H { s with heap := h', toks := t' } := I.un (Un.kept k) (I.hok.kept k)
/-- a new object laid and tracked -/
theorem Inv.laid {a : Addr} {o : HO} {t' : Nat} (I : Inv X pins σ H s) (k : ∀ b u, s.heap.get? b = some u → h'.get? b = some u) (hp : s.heap.objs.size ≤ a) (new : ObjOk X.prog X.w (upd H a o) h' a o) :
    Inv X pins σ (upd H a o) { s with heap := h', toks := t' } := I.un (Un.laid k hp (I.hok.fresh hp)) (I.hok.laid k hp new)
/-- an object written -/
theorem Inv.write {x e : Addr} {o : HO} {t' : Nat} (I : Inv X pins σ H s) (mu : Mut (H x)) (he : e = x ∨ H e = some (.own x)) (k : ∀ b u, b ≠ e → s.heap.get? b = some u → h'.get? b = some u) (heo : ∃ u, h'.get? e = some u)
    (new : ObjOk X.prog X.w (upd H x o) h' x o) : Inv X pins σ (upd H x o) { s with heap := h', toks := t' } := I.un (Un.write mu he k heo) (I.hok.write mu he k heo new)
/-- forgetting slots, pins -/
theorem Inv.weak {σ' : List (Option V)} (I : Inv X pins σ H s) (hl : σ'.length = σ.length) (w : ∀ (i : Nat) v, σ'[i]? = some (some v) → σ[i]? = some (some v)) : Inv X pins σ' H s :=
  ⟨I.ok, I.os, I.bare, I.base, let ⟨m, hn, hl'⟩ := I.loc; ⟨m, hn, fun i x v e1 e2 e3 => hl' i x v e1 (w i v e2) e3⟩, I.cell, I.free, I.freeC, I.pin, I.hok, hl.trans I.len⟩
theorem Inv.pins_of {pins' : List (Addr × Obj)} (I : Inv X pins σ H s) (h : ∀ p ∈ pins', s.heap.get? p.1 = some p.2 ∧ H p.1 = none ∧ p.1 ≠ X.env.locals ∧ p.1 ∉ X.fs ∧ ∀ v, p.2.data ≠ .cell v) : Inv X pins' σ H s :=
  ⟨I.ok, I.os, I.bare, I.base, I.loc, I.cell, I.free, I.freeC, fun p hp => (List.mem_append.mp hp).elim (fun z => I.pin p (List.mem_append_left _ z)) (h p), I.hok, I.len⟩

theorem nodup_ix {N : List Str} (hN : N.Nodup) {i j : Nat} {x : Str} (a : N[i]? = some x) (b : N[j]? = some x) : i = j := by
  obtain ⟨h1, e1⟩ := List.getElem?_eq_some_iff.mp a
  obtain ⟨h2, e2⟩ := List.getElem?_eq_some_iff.mp b
  exact (List.getElem_inj hN).mp (e1.trans e2.symm)

/-- a name is stored; what changed -/
theorem store_ok2 {M : Model} {A : Around} {E : Value → Shared → Prop} {i : Nat} {x : Str} {v : V} {u : Value} {Q : Unit → Shared → Prop} (I : Inv X pins σ H s) (hN : X.N.Nodup) (hi : X.N[i]? = some x) (hx : Loc X.env.scope x) (r : RelV v u)
    (h : ∀ s', Inv X pins (σ.set i (some v)) H s' → (∃ a, Heap.SameBut a s.heap s'.heap ∧ (a = X.env.locals ∨ X.env.cells.lookup x = some a)) → Q () s') (hf : X.fn x = true ∨ X.env.scope.names.lookup x = some .local := by first | exact .inl rfl | exact .inr rfl | assumption) : wpAny M A (storeName X.env x u) Q E s := by
  obtain ⟨m, hn, hl⟩ := id I.loc
  have hcls : (X.env.scope.kind == .class || (X.env.scope.kind == .module && X.env.locals != X.env.globals)) = false := by rw [I.ok.kind]; rfl
  have hiσ : i < σ.length := by rw [I.len]; exact (List.getElem?_eq_some_iff.mp hi).1
  have cne := I.cne
  have tracked : ∀ {a : Addr} {h' : Heap}, (∃ o, s.heap.get? a = some o ∧ H a = none) → Heap.SameBut a s.heap h' → HOk X.prog X.w H h' := fun {a h'} ha hs b ob e => by
    obtain ⟨_, _, hfree⟩ := ha
    refine (I.hok b ob e).stay (fun c w' hc q => (hs.2 c ?_).trans q) (fun _ q => q) fun _ _ q => q
    rintro rfl
    rcases hc with rfl | hc
    · rw [hfree] at e; cases e
    · rw [hfree] at hc; cases hc
  rcases hx with hk | hk
  · refine wpAny_storeName_local hk hn (fun h' hn' hs => ?_) hcls
    obtain ⟨oL, _, _, hoL, _⟩ := id hn
    refine h _ ⟨I.ok, I.os, I.bare, ⟨fun b o e n hb hx => ?_, fun b o e n hb hx => ?_, I.base.free, fun b o e hx => ?_, I.base.tups, I.base.frzs, I.base.tbls⟩, ⟨_, hn', fun j y v' e1 e2 e3 => ?_⟩, fun y c e => ?_, I.free, I.freeC, fun p hp => ?_, tracked ⟨oL, hoL, I.free⟩ hs, by simpa using I.len⟩ ⟨_, hs, .inl rfl⟩
    · exact (hs.2 b (Nat.ne_of_lt (Nat.lt_of_lt_of_le (Heap.lt_size e) I.ok.above))).trans (I.base.keep b o e n hb hx)
    · obtain ⟨sl, e1⟩ := I.base.slot b o e n hb hx
      exact ⟨sl, (hs.2 b (Nat.ne_of_lt (Nat.lt_of_lt_of_le (Heap.lt_size e) I.ok.above))).trans e1⟩
    · obtain ⟨o', e1⟩ := I.base.there b o e hx
      exact ⟨o', (hs.2 b (Nat.ne_of_lt (Nat.lt_of_lt_of_le (Heap.lt_size e) I.ok.above))).trans e1⟩
    · by_cases hj : j = i
      · subst hj
        rw [hi] at e1; cases e1
        rw [List.getElem?_set_self hiσ] at e2
        cases e2
        exact ⟨u, r, .inl ⟨hk, by simp⟩⟩
      · rw [List.getElem?_set_ne (Ne.symm hj)] at e2
        obtain ⟨u', r', q⟩ := hl j y v' e1 e2 e3
        refine ⟨u', r', ?_⟩
        rcases q with ⟨k, e⟩ | ⟨k, c, e, z⟩
        · refine .inl ⟨k, ?_⟩
          have : y ≠ x := fun e => hj (nodup_ix hN e1 (e ▸ hi))
          simp [this, e]
        · exact .inr ⟨k, c, e, z.sameBut hs (cne y c e)⟩
    · obtain ⟨w', z⟩ := I.cell y c e
      exact ⟨w', z.sameBut hs (cne y c e)⟩
    · obtain ⟨e, n, ne, nf, d⟩ := I.pin p hp
      exact ⟨(hs.2 p.1 ne).trans e, n, ne, nf, d⟩
  · have hfn : X.fn x = true := by
      rcases hf with z | z
      · exact z
      · rw [z] at hk; cases hk
    obtain ⟨c, hc⟩ := I.ok.has x (.inl hk)
    obtain ⟨w', z⟩ := I.cell x c hc
    refine wpAny_storeName_cell I.ok.kind hk hc z (fun h' hc' hs => ?_)
    obtain ⟨oc, hoc, hocd⟩ := id z
    refine h { s with heap := h' } ⟨I.ok, I.os, I.bare, ⟨fun b o e n hb hx => ?_, fun b o e n hb hx => ?_, I.base.free, fun b o e hx => ?_, I.base.tups, I.base.frzs, I.base.tbls⟩, ⟨m, hn.sameBut hs (Ne.symm (cne x c hc)), fun j y v' e1 e2 e3 => ?_⟩, fun y c' e => ?_, I.free, I.freeC, fun p hp => ?_, tracked ⟨oc, hoc, I.freeC x c hc⟩ hs, by simpa using I.len⟩ ⟨c, hs, .inr hc⟩
    · exact (hs.2 b (Nat.ne_of_lt (Nat.lt_of_lt_of_le (Heap.lt_size e) (I.ok.cab x c hfn hc)))).trans (I.base.keep b o e n hb hx)
    · obtain ⟨sl, e1⟩ := I.base.slot b o e n hb hx
      exact ⟨sl, (hs.2 b (Nat.ne_of_lt (Nat.lt_of_lt_of_le (Heap.lt_size e) (I.ok.cab x c hfn hc)))).trans e1⟩
    · obtain ⟨o', e1⟩ := I.base.there b o e hx
      exact ⟨o', (hs.2 b (Nat.ne_of_lt (Nat.lt_of_lt_of_le (Heap.lt_size e) (I.ok.cab x c hfn hc)))).trans e1⟩
    · by_cases hj : j = i
      · subst hj
        rw [hi] at e1; cases e1
        rw [List.getElem?_set_self hiσ] at e2
        cases e2
        exact ⟨u, r, .inr ⟨.inl hk, c, hc, hc'⟩⟩
      · rw [List.getElem?_set_ne (Ne.symm hj)] at e2
        obtain ⟨u', r', q⟩ := hl j y v' e1 e2 e3
        refine ⟨u', r', ?_⟩
        rcases q with q | ⟨k, c', e, z'⟩
        · exact .inl q
        · refine .inr ⟨k, c', e, z'.sameBut hs ?_⟩
          rintro rfl
          exact hj (nodup_ix hN e1 (I.ok.inj _ _ _ e hc ▸ hi))
    · by_cases hcc : c' = c
      · subst hcc; exact ⟨_, hc'⟩
      · obtain ⟨w2, z2⟩ := I.cell y c' e
        exact ⟨w2, z2.sameBut hs hcc⟩
    · obtain ⟨e, n, ne, nf, d⟩ := I.pin p hp
      refine ⟨(hs.2 p.1 ?_).trans e, n, ne, nf, d⟩
      intro q
      rw [q, hoc] at e
      have q' : oc = p.2 := Option.some.inj e
      exact d w' (by rw [← q']; exact hocd)
theorem store_ok {M : Model} {A : Around} {E : Value → Shared → Prop} {i : Nat} {x : Str} {v : V} {u : Value} {Q : Unit → Shared → Prop} (I : Inv X pins σ H s) (hN : X.N.Nodup) (hi : X.N[i]? = some x) (hx : Loc X.env.scope x) (r : RelV v u)
    (h : ∀ s', Inv X pins (σ.set i (some v)) H s' → Q () s') (hf : X.fn x = true ∨ X.env.scope.names.lookup x = some .local := by first | exact .inl rfl | exact .inr rfl | assumption) : wpAny M A (storeName X.env x u) Q E s :=
  store_ok2 I hN hi hx r (fun s' I' _ => h s' I') hf
/-- behind a call or a block, the state as it is -/
theorem Inv.call' {s' : Shared} {ch : List Addr} (I : Inv X pins σ H s) (ho : s'.os = s.os) (u : Un (frs X.stack) ch H H' s.heap s'.heap) (hok : HOk X.prog X.w H' s'.heap) (hg : AllBare s'.gens)
    (hch : ∀ b ∈ ch, (b ∈ X.ex ∨ X.s_0.heap.objs.size ≤ b) ∧ b ≠ X.env.locals ∧ (∀ x c, X.env.cells.lookup x = some c → c ≠ b) ∧ ∀ p ∈ X.pn ++ pins, p.1 ≠ b) : Inv X pins σ H' s' := by
  obtain ⟨h', g', d', t', o'⟩ := s'
  have e : o' = s.os := ho
  subst e
  exact I.call (g' := g') (t' := t') (d' := d') u hok hg hch
end

/-! ### the judgements -/
/-- an exception: its class, its own dict's address (where it has one), the abstract heap behind it -/
abbrev XK := Value → Option Addr → Hp → Prop
abbrev St := List (Option V)
abbrev VK := V → Hp → Prop
/-- an expression's reading; a test's; an argument list's -/
abbrev TE := St → Hp → VK → Prop
abbrev TT := St → Hp → (Bool → Hp → Prop) → Prop
abbrev TA := St → Hp → (List V → Hp → Prop) → Prop
/-- what is wanted behind a statement -/
structure Ends where
  nx : St → Hp → Prop
  rt : VK
  bk : St → Hp → Prop := fun _ _ => False
  ct : St → Hp → Prop := fun _ _ => False
abbrev TS := Ends → St → Hp → Prop

def EP (X : Cx) (pins : List (Addr × Obj)) (σ : St) (Q : VK) (u : Value) (s' : Shared) : Prop := ∃ v H', Inv X pins σ H' s' ∧ RelV v u ∧ Q v H'
def TP (X : Cx) (pins : List (Addr × Obj)) (σ : St) (Q : Bool → Hp → Prop) (b : Bool) (s' : Shared) : Prop := ∃ H', Inv X pins σ H' s' ∧ Q b H'
def AP (X : Cx) (pins : List (Addr × Obj)) (σ : St) (Q : List V → Hp → Prop) (us : List Value) (s' : Shared) : Prop := ∃ vs H', Inv X pins σ H' s' ∧ Vals vs us ∧ Q vs H'
def SP (X : Cx) (pins : List (Addr × Obj)) (D : Ends) (f : Flow) (s' : Shared) : Prop :=
  match f with
  | .next => ∃ σ' H', Inv X pins σ' H' s' ∧ D.nx σ' H'
  | .brk => ∃ σ' H', Inv X pins σ' H' s' ∧ D.bk σ' H'
  | .cont => ∃ σ' H', Inv X pins σ' H' s' ∧ D.ct σ' H'
  | .ret u => ∃ v σ' H', Inv X pins σ' H' s' ∧ RelV v u ∧ D.rt v H'

def PE (X : Cx) (e : Expr) (t : TE) : Prop :=
  ∀ (pins : List (Addr × Obj)) (s : Shared) (σ : St) (H : Hp) (Q : VK), Inv X pins σ H s → t σ H Q → wpAny (model X.prog X.w) X.A (eval e X.env) (EP X pins σ Q) X.xe s
def PT (X : Cx) (e : Expr) (t : TT) : Prop :=
  ∀ (pins : List (Addr × Obj)) (s : Shared) (σ : St) (H : Hp) (Q : Bool → Hp → Prop), Inv X pins σ H s → t σ H Q → wpAny (model X.prog X.w) X.A (isTrue e X.env (eval e X.env)) (TP X pins σ Q) X.xe s
/-- a test whatever its 'whole' is (and, or) -/
def PW (X : Cx) (e : Expr) (t : TT) : Prop :=
  ∀ (whole : Sem Value) (pins : List (Addr × Obj)) (s : Shared) (σ : St) (H : Hp) (Q : Bool → Hp → Prop), Inv X pins σ H s → t σ H Q → wpAny (model X.prog X.w) X.A (isTrue e X.env whole) (TP X pins σ Q) X.xe s
theorem PW.pt {X : Cx} {e : Expr} {t : TT} (h : PW X e t) : PT X e t := h _
/-- an argument list (no star), from the left -/
def PA (X : Cx) (es : List Expr) (t : TA) : Prop :=
  ∀ (pos : Pos) (pins : List (Addr × Obj)) (s : Shared) (σ : St) (H : Hp) (Q : List V → Hp → Prop), Inv X pins σ H s → t σ H Q → wpAny (model X.prog X.w) X.A (spliced (backTo pos (starEach es X.env))) (AP X pins σ Q) X.xe s
def PS (X : Cx) (st : Stmt) (t : TS) : Prop :=
  ∀ (pins : List (Addr × Obj)) (s : Shared) (σ : St) (H : Hp) (D : Ends), Inv X pins σ H s → t D σ H → wpAny (model X.prog X.w) X.A (exec st X.env) (SP X pins D) X.xe s
def PSs (X : Cx) (st : List Stmt) (t : TS) : Prop :=
  ∀ (pins : List (Addr × Obj)) (s : Shared) (σ : St) (H : Hp) (D : Ends), Inv X pins σ H s → t D σ H → wpAny (model X.prog X.w) X.A (execs st X.env) (SP X pins D) X.xe s
/-- weaken the end -/
theorem thn {α : Type} {t : Sem α} {Q Q' : α → Shared → Prop} {M : Model} {A : Around} {E : Value → Shared → Prop} {s : Shared} (h : wpAny M A t Q E s) (hQ : ∀ a s, Q a s → Q' a s) : wpAny M A t Q' E s := wpAny_mono h hQ fun _ _ x => x
end L2

namespace L2
open PySem PySem.Spec PyProof.Rows
section
variable {X : Cx}

/-! ### names and constants -/
def tVar (i : Nat) : TE := fun σ H Q => ∃ v, σ[i]? = some (some v) ∧ Q v H
def tC (v : V) : TE := fun _ H Q => Q v H
theorem pe_var {i : Nat} {x : Str} {pos : Pos} (hN : X.N[i]? = some x) (hv : Vis X.env.scope x) (hd : (x == ("__debug__" : Str)) = false := by decide) (hcd : (x == ("__classdict__" : Str)) = false := by decide) : PE X (.Name x pos) (tVar i) := by
  intro pins s σ H Q I h
  obtain ⟨v, e, h⟩ := h
  obtain ⟨m, hn, hl⟩ := I.loc
  obtain ⟨u, r, l⟩ := hl i x v hN e hv
  have fin : EP X pins σ Q u s := ⟨v, H, I, r, h⟩
  rcases l with ⟨hk, hm⟩ | ⟨hk, c, hc, hcell⟩
  · exact wpAny_Name (wpAny_loadName_local I.ok.kind hk hn hm fin) hd
  · rcases hk with hk | hk
    · exact wpAny_Name (wpAny_loadName_cell I.ok.kind hk hc hcell fin) hd
    · exact wpAny_Name (wpAny_loadName_free I.ok.kind hk hc hcell fin hcd) hd
theorem pe_int {i j pos} : PE X (.Constant (.int i) j pos) (tC (.int i)) := fun _ _ _ H _ I h => wpAny_Constant_int ⟨.int i, H, I.tok _, ⟨_, rfl⟩, h⟩
theorem pe_bl {b j pos} : PE X (.Constant (.bool b) j pos) (tC (.bl b)) := fun _ _ _ H _ I h => Constant_bool ⟨.bl b, H, I, rfl, h⟩
theorem pe_non {j pos} : PE X (.Constant .none j pos) (tC .non) := fun _ _ _ H _ I h => Constant_none ⟨.non, H, I, rfl, h⟩
theorem pe_str {x j pos} : PE X (.Constant (.str x) j pos) (tC (.str x)) := fun _ _ _ H _ I h => Calls.Constant_str ⟨.str x, H, I.tok _, ⟨_, rfl⟩, h⟩

/-- a global name of the def -/
def Gl (X : Cx) (x : Str) : Prop := X.env.kindOf x = some .globalImplicit
theorem ld_glob {E : Value → Shared → Prop} {pins : List (Addr × Obj)} {s : Shared} {σ : St} {H : Hp} {x : Str} {u : Value} {pos : Pos} {Q : Value → Shared → Prop} (I : Inv X pins σ H s) (hg : Gl X x) (hm : X.mg x = some u) (h : Q u s)
    (hd : (x == ("__debug__" : Str)) = false := by decide) : wpAny (model X.prog X.w) X.A (eval (.Name x pos) X.env) Q E s :=
  Calls.Name_function_global I.ok.kind hg (Calls.loadGlobal_global (by rw [I.ok.glob]; exact I.mod.glob.keeps I.bk) hm h) hd
theorem ld_blt {E : Value → Shared → Prop} {pins : List (Addr × Obj)} {s : Shared} {σ : St} {H : Hp} {x : Str} {u : Value} {pos : Pos} {Q : Value → Shared → Prop} (I : Inv X pins σ H s) (hg : Gl X x) (hm : X.mg x = none) (hv : bootBuiltins x = some u) (h : Q u s)
    (hn : x ≠ "__name__" := by decide) (hd : (x == ("__debug__" : Str)) = false := by decide) : wpAny (model X.prog X.w) X.A (eval (.Name x pos) X.env) Q E s := by
  obtain ⟨mb, h1, h2⟩ := I.mod.blt
  exact Calls.Name_function_global I.ok.kind hg (Calls.loadGlobal_builtin (by rw [I.ok.glob]; exact I.mod.glob.keeps I.bk) hm (by rw [I.ok.blt]; exact h1.keeps I.bk) ((h2 x hn).trans hv) h) hd
/-- a module's constant, a class, a function, as a value -/
theorem pe_glob {x : Str} {v : V} {u : Value} {pos : Pos} (hg : Gl X x) (hm : X.mg x = some u) (r : RelV v u) (hd : (x == ("__debug__" : Str)) = false := by decide) : PE X (.Name x pos) (tC v) :=
  fun _ _ _ H _ I h => ld_glob I hg hm ⟨v, H, I, r, h⟩ hd
/-! ### arithmetic -/
variable {a b : Expr} {ta tb : TE} {pos : Pos}
/-! ### comparisons -/
/-- a comparison as a value, as a test -/
def tB (t : TE) : TT := fun σ H Q => t σ H fun x H1 => ∃ c, x = .bl c ∧ Q c H1
/-- an expression whose value is a bool, as a test -/
theorem pt_val {e : Expr} {t : TE} (h : PE X e t) (he : ∀ whole, isTrue e X.env whole = (do let v ← whole; standAt e.pos; holding [v] (truthy v)) := by intro _; rfl) : PT X e (tB t) := by
  intro pins s σ H Q I hw
  refine isTrue_plain (thn (h pins s σ H _ I hw) fun v s1 ⟨x, H1, I1, r1, q1⟩ => ?_) (he _)
  obtain ⟨d, rfl, q⟩ := q1
  cases r1
  exact wpAny_truthy_bool ⟨H1, I1, q⟩

/-! ### and, or, not -/
variable {tA tB' : TT} {rest : List Expr}
def tAnd (t u : TT) : TT := fun σ H Q => t σ H fun c H1 => if c = true then u σ H1 Q else Q false H1
def tOr (t u : TT) : TT := fun σ H Q => t σ H fun c H1 => if c = true then Q true H1 else u σ H1 Q
def tNot (t : TT) : TT := fun σ H Q => t σ H fun c H1 => Q (!c) H1
theorem pw_and1 (ha : PT X a tA) : PW X (.BoolOp .And [a] pos) tA := by
  intro wh pins s σ H Q I h
  refine isTrue_and (thn (ha pins s σ H Q I h) fun c s1 e => ?_)
  cases c with
  | true => exact isTrue_and_nil e
  | false => exact e
theorem pw_or1 (ha : PT X a tA) : PW X (.BoolOp .Or [a] pos) tA := by
  intro wh pins s σ H Q I h
  refine isTrue_or (thn (ha pins s σ H Q I h) fun c s1 e => ?_)
  cases c with
  | false => exact isTrue_or_nil e
  | true => exact e
theorem pw_and (ha : PT X a tA) (hb : PW X (.BoolOp .And (b :: rest) pos) tB') : PW X (.BoolOp .And (a :: b :: rest) pos) (tAnd tA tB') := by
  intro wh pins s σ H Q I h
  refine isTrue_and (thn (ha pins s σ H _ I h) fun c s1 ⟨H1, I1, q1⟩ => ?_)
  cases c with
  | true => exact hb wh pins s1 σ H1 Q I1 q1
  | false => exact ⟨H1, I1, q1⟩
theorem pw_or (ha : PT X a tA) (hb : PW X (.BoolOp .Or (b :: rest) pos) tB') : PW X (.BoolOp .Or (a :: b :: rest) pos) (tOr tA tB') := by
  intro wh pins s σ H Q I h
  refine isTrue_or (thn (ha pins s σ H _ I h) fun c s1 ⟨H1, I1, q1⟩ => ?_)
  cases c with
  | true => exact ⟨H1, I1, q1⟩
  | false => exact hb wh pins s1 σ H1 Q I1 q1
theorem pt_not (ha : PT X a tA) : PT X (.UnaryOp .Not a pos) (tNot tA) := by
  intro pins s σ H Q I h
  exact isTrue_not (ha pins s σ H (fun c H1 => Q (!c) H1) I h)
/-- .. as values (bools) -/
def tAndV (ta tb : TE) : TE := fun σ H Q => ta σ H fun x H1 => ∃ c, x = .bl c ∧ if c = true then tb σ H1 Q else Q (.bl false) H1
def tOrV (ta tb : TE) : TE := fun σ H Q => ta σ H fun x H1 => ∃ c, x = .bl c ∧ if c = true then Q (.bl true) H1 else tb σ H1 Q
def tNotV (ta : TE) : TE := fun σ H Q => ta σ H fun x H1 => ∃ c, x = .bl c ∧ Q (.bl (!c)) H1
theorem pe_one {op} {t : TE} (h : PE X a t) : PE X (.BoolOp op [a] pos) t := fun pins s σ H Q I hw => BoolOp_one (h pins s σ H Q I hw)
theorem pe_and (ha : PE X a ta) (hb : PE X (.BoolOp .And (b :: rest) pos) tb) : PE X (.BoolOp .And (a :: b :: rest) pos) (tAndV ta tb) := by
  intro pins s σ H Q I h
  refine BoolOp_and (thn (ha pins s σ H _ I h) fun v s1 ⟨x, H1, I1, r1, q1⟩ => ?_)
  obtain ⟨c, rfl, q1⟩ := q1
  cases r1
  refine wpAny_truthy_bool ?_
  cases c with
  | true => exact hb pins s1 σ H1 Q I1 q1
  | false => exact ⟨.bl false, H1, I1, rfl, q1⟩
theorem pe_or (ha : PE X a ta) (hb : PE X (.BoolOp .Or (b :: rest) pos) tb) : PE X (.BoolOp .Or (a :: b :: rest) pos) (tOrV ta tb) := by
  intro pins s σ H Q I h
  refine BoolOp_or (thn (ha pins s σ H _ I h) fun v s1 ⟨x, H1, I1, r1, q1⟩ => ?_)
  obtain ⟨c, rfl, q1⟩ := q1
  cases r1
  refine wpAny_truthy_bool ?_
  cases c with
  | false => exact hb pins s1 σ H1 Q I1 q1
  | true => exact ⟨.bl true, H1, I1, rfl, q1⟩
theorem pe_not (ha : PE X a ta) : PE X (.UnaryOp .Not a pos) (tNotV ta) := by
  intro pins s σ H Q I h
  refine UnaryOp_ (thn (ha pins s σ H _ I h) fun v s1 ⟨x, H1, I1, r1, q1⟩ => ?_)
  obtain ⟨c, rfl, q1⟩ := q1
  cases r1
  exact not_of (wpAny_truthy_bool ⟨.bl (!c), H1, I1, rfl, q1⟩)
/-- a if t else b -/
def tIf (t : TT) (ta tb : TE) : TE := fun σ H Q => t σ H fun c H1 => if c = true then ta σ H1 Q else tb σ H1 Q
theorem pe_ifExp {c : Expr} (hc : PT X c tA) (ha : PE X a ta) (hb : PE X b tb) : PE X (.IfExp c a b pos) (tIf tA ta tb) := by
  intro pins s σ H Q I h
  refine wpAny_IfExp (thn (hc pins s σ H _ I h) fun d s1 ⟨H1, I1, q1⟩ => ?_)
  cases d with
  | true => exact ha pins s1 σ H1 Q I1 q1
  | false => exact hb pins s1 σ H1 Q I1 q1
end
end L2

namespace L2
open PySem PySem.Spec PyProof.Rows

/-! ### a list, a tuple that is read: tracked, frozen, or an object of the module -/
def SqL (K : PySem.W.Frag) (H : Hp) (a : Addr) (xs : List V) : Prop :=
  Rd H a (.lst xs) ∨
    ∃ (o : Obj) (its : Array Value) (n : Nat), K.lookup a = some o ∧ o.cls = .type "list" ∧ o.dict = none ∧ o.data = .seq its n ∧ its.size ≤ sizeLine ∧ Vals xs its.toList
def SqT (K : PySem.W.Frag) (H : Hp) (a : Addr) (xs : List V) : Prop :=
  Rd H a (.tup xs) ∨
    ∃ (o : Obj) (its : Array Value) (n : Nat), K.lookup a = some o ∧ o.cls = .type "tuple" ∧ o.data = .seq its n ∧ its.size ≤ sizeLine ∧ Vals xs its.toList
def absV : Value → Option V
  | .none => some .non
  | .bool b => some (.bl b)
  | .int i _ => some (.int i)
  | .str x _ => some (.str x)
  | .bytes b _ => some (.byt b)
  | .float b _ => some (.flt b)
  | .ref a => some (.ref a)
  | .type n => some (.ty n)
  | _ => none
theorem RelV.abs {x : V} {u : Value} (r : RelV x u) : absV u = some x := by
  cases x with
  | non => cases r; rfl
  | bl _ => cases r; rfl
  | int _ => obtain ⟨t, rfl⟩ := r; rfl
  | str _ => obtain ⟨t, rfl⟩ := r; rfl
  | byt _ => obtain ⟨t, rfl⟩ := r; rfl
  | flt _ => obtain ⟨t, rfl⟩ := r; rfl
  | ref _ => cases r; rfl
  | ty _ => cases r; rfl
theorem RelV.inj {x y : V} {u : Value} (r : RelV x u) (q : RelV y u) : x = y := Option.some.inj (r.abs.symm.trans q.abs)
theorem Vals.inj : ∀ {xs ys : List V} {us : List Value}, Vals xs us → Vals ys us → xs = ys
  | _, _, _, .nil, .nil => rfl
  | _, _, _, .cons r t, .cons r' t' => by rw [r.inj r', Vals.inj t t']
section
variable {X : Cx} {pins : List (Addr × Obj)} {σ : St} {H : Hp} {s : Shared} {a : Addr} {xs ys : List V}
theorem SqL.of {K : PySem.W.Frag} (h : H a = some (.lst xs)) : SqL K H a xs := .inl (.inl h)
theorem SqT.of {K : PySem.W.Frag} (h : H a = some (.tup xs)) : SqT K H a xs := .inl (.inl h)
theorem Inv.list (I : Inv X pins σ H s) (h : SqL X.K H a xs) : ∃ its : List Value, Vals xs its ∧ PlainL s.heap a its.toArray ∧ xs.length ≤ sizeLine := by
  rcases h with h | ⟨o, its, n, hk, hc, hd, hs, hz, r⟩
  · obtain ⟨z, its, n, r, e⟩ := h.ok I.hok
    exact ⟨its, r, ⟨_, n, e, rfl, rfl, rfl⟩, z⟩
  · refine ⟨its.toList, r, ⟨o, n, I.kIn a o hk, hc, hd, by simpa using hs⟩, ?_⟩
    have e := r.length
    simp only [Array.length_toList] at e
    omega
theorem Inv.tuple (I : Inv X pins σ H s) (h : SqT X.K H a xs) : ∃ its : List Value, Vals xs its ∧ IsTup s.heap a its.toArray ∧ xs.length ≤ sizeLine := by
  rcases h with h | ⟨o, its, n, hk, hc, hs, hz, r⟩
  · obtain ⟨z, its, r, p⟩ := h.ok I.hok
    exact ⟨its, r, p, z⟩
  · refine ⟨its.toList, r, ⟨o, I.kIn a o hk, hc, n, by simpa using hs⟩, ?_⟩
    have e := r.length
    simp only [Array.length_toList] at e
    omega
theorem Inv.list_inj (I : Inv X pins σ H s) (h : SqL X.K H a xs) (h' : SqL X.K H a ys) : xs = ys := by
  obtain ⟨its, r, ⟨o, n, e, _, _, d⟩, _⟩ := I.list h
  obtain ⟨its', r', ⟨o', n', e', _, _, d'⟩, _⟩ := I.list h'
  rw [e] at e'; cases e'
  rw [d] at d'
  injection d' with d1 _
  have : its = its' := by simpa using congrArg Array.toList d1
  subst this
  exact r.inj r'
theorem Inv.tuple_inj (I : Inv X pins σ H s) (h : SqT X.K H a xs) (h' : SqT X.K H a ys) : xs = ys := by
  obtain ⟨its, r, ⟨o, e, _, n, d⟩, _⟩ := I.tuple h
  obtain ⟨its', r', ⟨o', e', _, n', d'⟩, _⟩ := I.tuple h'
  rw [e] at e'; cases e'
  rw [d] at d'
  injection d' with d1 _
  have : its = its' := by simpa using congrArg Array.toList d1
  subst this
  exact r.inj r'
end

/-! ### another wish about exceptions -/
abbrev Cx.wish (X : Cx) (E : Value → Shared → Prop) : Cx := { X with xe := E }
/-- no exception leaves -/
abbrev Cx.nox (X : Cx) : Cx := X.wish fun _ _ => False
theorem Cx.Ok.wish {X : Cx} (ok : X.Ok) (E : Value → Shared → Prop) : (X.wish E).Ok :=
  ⟨ok.mod, ok.kind, ok.glob, ok.blt, ok.above, ok.inj, ok.has, ok.cab, ok.hd, ok.frames, ok.stk, ok.exf, ok.bs, ok.bsz, ok.noex, ok.exfs, ok.funs, ok.frf⟩
theorem Cx.Ok.unwish {X : Cx} {E : Value → Shared → Prop} (ok : (X.wish E).Ok) : X.Ok :=
  ⟨ok.mod, ok.kind, ok.glob, ok.blt, ok.above, ok.inj, ok.has, ok.cab, ok.hd, ok.frames, ok.stk, ok.exf, ok.bs, ok.bsz, ok.noex, ok.exfs, ok.funs, ok.frf⟩
section
variable {X : Cx} {pins : List (Addr × Obj)} {σ : St} {H : Hp} {s : Shared} {E : Value → Shared → Prop}
theorem Inv.wish (I : Inv X pins σ H s) (E : Value → Shared → Prop) : Inv (X.wish E) pins σ H s := ⟨I.ok.wish E, I.os, I.bare, I.base, I.loc, I.cell, I.free, I.freeC, I.pin, I.hok, I.len⟩
theorem Inv.unwish (I : Inv (X.wish E) pins σ H s) : Inv X pins σ H s := ⟨I.ok.unwish, I.os, I.bare, I.base, I.loc, I.cell, I.free, I.freeC, I.pin, I.hok, I.len⟩
theorem SP.unwish {D : Ends} {f : Flow} {s' : Shared} (h : SP (X.wish E) pins D f s') : SP X pins D f s' := by
  cases f with
  | next => obtain ⟨σ', H', I, q⟩ := h; exact ⟨σ', H', I.unwish, q⟩
  | brk => obtain ⟨σ', H', I, q⟩ := h; exact ⟨σ', H', I.unwish, q⟩
  | cont => obtain ⟨σ', H', I, q⟩ := h; exact ⟨σ', H', I.unwish, q⟩
  | ret u => obtain ⟨v, σ', H', I, r, q⟩ := h; exact ⟨v, σ', H', I.unwish, r, q⟩
theorem PSs.nox {st : List Stmt} {t : TS} (h : PSs X.nox st t) : PSs X st t := fun pins s σ H D I hw =>
  wpAny_mono (h pins s σ H D (I.wish _) hw) (fun _ _ q => q.unwish) fun _ _ z => False.elim z
end

/-! ### blocks and small statements -/
section
variable {X : Cx} {st : Stmt} {rest : List Stmt} {t u : TS} {e : Expr} {te : TE} {pos : Pos}
def tNext : TS := fun D σ H => D.nx σ H
def tSeq (t u : TS) : TS := fun D σ H => t { D with nx := u D } σ H
theorem pss_nil : PSs X [] tNext := fun _ _ σ H _ I h => wpAny_execs_nil ⟨σ, H, I, h⟩
theorem pss_cons (h1 : PS X st t) (h2 : PSs X rest u) : PSs X (st :: rest) (tSeq t u) := by
  intro pins s σ H D I h
  refine wpAny_execs_cons (thn (h1 pins s σ H { D with nx := u D } I h) fun f s1 q => ?_)
  cases f with
  | next =>
    obtain ⟨σ', H', I', q⟩ := q
    exact h2 pins s1 σ' H' D I' q
  | ret v => exact q
  | brk => exact q
  | cont => exact q
theorem pss_one (h1 : PS X st t) : PSs X [st] t := by
  intro pins s σ H D I h
  refine wpAny_execs_cons (thn (h1 pins s σ H D I h) fun f s1 q => ?_)
  cases f with
  | next => exact wpAny_execs_nil q
  | ret v => exact q
  | brk => exact q
  | cont => exact q
/-- in a def's body nothing is shown -/
theorem Inv.quiet {pins : List (Addr × Obj)} {σ : St} {H : Hp} {s : Shared} (I : Inv X pins σ H s) : interactive X.env = false := by simp [interactive, I.ok.kind]
/-- an expression whose value is dropped -/
def tDrop (te : TE) : TS := fun D σ H => te σ H fun _ H1 => D.nx σ H1
theorem ps_expr (he : PE X e te) (hs : swapsWith e none pos.line X.env = pure false := by rfl) : PS X (.Expr e pos) (tDrop te) := by
  intro pins s σ H D I h
  exact wpAny_Expr_any (thn (he pins s σ H _ I h) fun v s1 ⟨x, H1, I1, r1, q1⟩ => ⟨σ, H1, I1, q1⟩) I.quiet hs
def tRet (te : TE) : TS := fun D σ H => te σ H D.rt
theorem ps_ret (he : PE X e te) : PS X (.Return (some e) pos) (tRet te) := by
  intro pins s σ H D I h
  exact wpAny_Return_some (thn (he pins s σ H _ I h) fun v s1 ⟨x, H1, I1, r1, q1⟩ => ⟨x, σ, H1, I1, r1, q1⟩)
def tIfS (c : TT) (t u : TS) : TS := fun D σ H => c σ H fun b H1 => if b = true then t D σ H1 else u D σ H1
theorem ps_if {c : Expr} {a b : List Stmt} {tc : TT} (hc : PT X c tc) (ha : PSs X a t) (hb : PSs X b u) : PS X (.If c a b pos) (tIfS tc t u) := by
  intro pins s σ H D I h
  refine wpAny_If (thn (hc pins s σ H _ I h) fun d s1 ⟨H1, I1, q1⟩ => ?_)
  cases d with
  | true => exact ha pins s1 σ H1 D I1 q1
  | false => exact hb pins s1 σ H1 D I1 q1
end

/-! ### targets -/
abbrev TG := V → St → Hp → (St → Hp → Prop) → Prop
def PG (X : Cx) (target : Expr) (t : TG) : Prop :=
  ∀ (pins : List (Addr × Obj)) (s : Shared) (σ : St) (H : Hp) (v : V) (u : Value) (Q : St → Hp → Prop), Inv X pins σ H s → RelV v u → t v σ H Q →
    wpAny (model X.prog X.w) X.A (assign target X.env u) (fun _ s' => ∃ σ' H', Inv X pins σ' H' s' ∧ Q σ' H') X.xe s
section
variable {X : Cx} {pos : Pos}
def gName (i : Nat) : TG := fun v σ H Q => Q (σ.set i (some v)) H
theorem pg_name {i : Nat} {x : Str} (hN : X.N.Nodup) (hi : X.N[i]? = some x) (hx : Loc X.env.scope x) (hf : X.fn x = true ∨ X.env.scope.names.lookup x = some .local := by first | exact .inl rfl | exact .inr rfl | assumption) : PG X (.Name x pos) (gName i) := by
  intro pins s σ H v u Q I r h
  exact wpAny_assign_Name (store_ok I hN hi hx r (fun s' I' => ⟨_, H, I', h⟩) hf)
/-- target = value -/
def tAsg (te : TE) (g : TG) : TS := fun D σ H => te σ H fun x H1 => g x σ H1 D.nx
/-- name = value -/
theorem ps_set {i : Nat} {x : Str} {e : Expr} {te : TE} {pos' : Pos} (hN : X.N.Nodup) (hi : X.N[i]? = some x) (hx : Loc X.env.scope x) (he : PE X e te) (hs : swapsWith e (some (.Name x pos')) pos.line X.env = pure false := by rfl) (hf : X.fn x = true ∨ X.env.scope.names.lookup x = some .local := by first | exact .inl rfl | exact .inr rfl | assumption) :
    PS X (.Assign [.Name x pos'] e pos) (tAsg te (gName i)) := by
  intro pins s σ H D I h
  refine wpAny_Assign_Name (thn (he pins s σ H _ I h) fun v s1 ⟨y, H1, I1, r1, q1⟩ => ?_) hs
  exact store_ok I1 hN hi hx r1 (fun s2 I2 => ⟨_, H1, I2, q1⟩) hf
end

/-! ### while -/
section
variable {X : Cx} {pos : Pos}
/-- the invariant W with its measure -/
def tWhile (c : TT) (tb : TS) : TS := fun D σ H => ∃ W : Nat → St → Hp → Prop, (∃ m, W m σ H) ∧ ∀ m σ H, W m σ H →
  c σ H fun b H1 => if b = true then ∃ N : St → Hp → Prop, (∀ σ' H', N σ' H' → ∃ m', m' < m ∧ W m' σ' H') ∧ tb { D with nx := N, ct := N, bk := D.nx } σ H1 else D.nx σ H1
theorem ps_while {c : Expr} {body : List Stmt} {tc : TT} {tb : TS} (hp : PassesOwn (model X.prog X.w) X.A X.env X.xe) (hc : PT X c tc) (hb : PSs X body tb) : PS X (.While c body [] pos) (tWhile tc tb) := by
  intro pins s σ H D I h
  obtain ⟨W, ⟨m0, w0⟩, turn⟩ := h
  refine wpAny_While (codeAny_whileLoop (fun n s' => ∃ σ' H', Inv X pins σ' H' s' ∧ W n σ' H') ?_ m0 ⟨σ, H, I, w0⟩)
  rintro n s1 ⟨σ1, H1, I1, w1⟩
  refine wpAny_passesOwn hp (thn (hc pins s1 σ1 H1 _ I1 (turn n σ1 H1 w1)) fun b s2 ⟨H2, I2, q2⟩ => ?_)
  cases b with
  | true =>
    obtain ⟨N, hN, q2⟩ := q2
    rw [if_pos rfl]
    refine wpAny_passesOwn hp (thn (hb pins s2 σ1 H2 _ I2 q2) fun f s3 q3 => ?_)
    cases f with
    | next =>
      obtain ⟨σ3, H3, I3, n3⟩ := q3
      obtain ⟨m', hm, w3⟩ := hN σ3 H3 n3
      exact ⟨m', hm, σ3, H3, I3, w3⟩
    | cont =>
      obtain ⟨σ3, H3, I3, n3⟩ := q3
      obtain ⟨m', hm, w3⟩ := hN σ3 H3 n3
      exact ⟨m', hm, σ3, H3, I3, w3⟩
    | brk => exact q3
    | ret v => exact q3
  | false =>
    rw [if_neg Bool.false_ne_true]
    exact wpAny_execs_nil ⟨σ1, H2, I2, q2⟩
end

/-! ### what a loop or a comprehension walks -/
/-- at turn i: it yields x (the heap may grow), or it stops -/
structure It where
  go : Nat → Hp → Prop
  yld : Nat → Hp → V → Hp → Prop
  stop : Nat → Hp → Prop
/-- the iterator's own objects may turn: they are not the frame's, not pinned, younger than the entry (or a comprehension's own) -/
def FpOk (X : Cx) (pins : List (Addr × Obj)) (H : Hp) (b : Addr) : Prop :=
  H b = none ∧ b ≠ X.env.locals ∧ b ∉ X.fs ∧ (b ∈ X.ex ∨ X.s_0.heap.objs.size ≤ b) ∧ (∀ x c, X.env.cells.lookup x = some c → c ≠ b) ∧ ∀ p ∈ X.pn ++ pins, p.1 ≠ b
theorem Inv.fpOk {X : Cx} {pins : List (Addr × Obj)} {σ : St} {H H' : Hp} {s : Shared} {b : Addr} (I : Inv X pins σ H s) (hb : s.heap.objs.size ≤ b) (hn : H' b = none) : FpOk X pins H' b := by
  refine ⟨hn, Nat.ne_of_gt (Nat.lt_of_lt_of_le I.lt hb), I.nofs hb, .inr (Nat.le_trans I.sz hb), fun x c e z => ?_, fun p hp z => ?_⟩
  · obtain ⟨v, q⟩ := I.cell x c e
    exact absurd (Nat.lt_of_lt_of_le q.lt (by rw [z]; exact hb)) (Nat.lt_irrefl _)
  · exact absurd (Nat.lt_of_lt_of_le (Heap.lt_size (I.pin p hp).1) (by rw [z]; exact hb)) (Nat.lt_irrefl _)
structure Turn (P : Program) (w : World) (K : PySem.W.Frag) (tg : Expr) (J : It) (fp : List Addr) (it : Addr) (tn : Nat → Heap → Prop) : Prop where
  mem : it ∈ fp
  obj : ∀ i h, tn i h → ∀ b ∈ fp, ∃ o, h.get? b = some o ∧ ∀ v, o.data ≠ .cell v
  keep : ∀ i h h', tn i h → (∀ b ∈ fp, ∀ o, h.get? b = some o → h'.get? b = some o) → tn i h'
  item : ∀ (X : Cx), X.prog = P → X.w = w → X.K = K → X.calm = true → ∀ (i : Nat) (pins : List (Addr × Obj)) (s : Shared) (σ : St) (H : Hp) (E : Value → Shared → Prop), Inv X pins σ H s → (∀ b ∈ fp, FpOk X pins H b) → tn i s.heap → J.go i H →
    wpAny (model P w) X.A (pyNext (.ref it)) (fun r s1 => ∃ u, r = some u ∧
      wpAny (model P w) X.A (letOwnedTupleGo tg (.ref it) u) (fun _ s2 => ∃ x H', Inv X pins σ H' s2 ∧ RelV x u ∧ J.yld i H x H' ∧ tn (i + 1) s2.heap ∧ ∀ b ∈ fp, H' b = none) E s1) E s
  done : ∀ (X : Cx), X.prog = P → X.w = w → X.K = K → X.calm = true → ∀ (i : Nat) (pins : List (Addr × Obj)) (s : Shared) (σ : St) (H : Hp) (E : Value → Shared → Prop), Inv X pins σ H s → (∀ b ∈ fp, FpOk X pins H b) → tn i s.heap → J.stop i H →
    wpAny (model P w) X.A (pyNext (.ref it)) (fun r s1 => r = none ∧ Inv X pins σ H s1) E s
  self : ∀ (A : Around) (i : Nat) (s : Shared) (Q : Value → Shared → Prop) (E : Value → Shared → Prop), tn i s.heap → Q (.ref it) s → wpAny (model P w) A (pyIter (.ref it)) Q E s
abbrev TI := St → Hp → (It → Hp → Prop) → Prop
/-- an iterator has come -/
def PIE (X : Cx) (pins : List (Addr × Obj)) (σ : St) (tg : Expr) (R : It → Hp → Prop) (itv : Value) (s2 : Shared) : Prop :=
  ∃ (it : Addr) (fp : List Addr) (tn : Nat → Heap → Prop) (J : It) (H' : Hp), itv = .ref it ∧ Inv X pins σ H' s2 ∧ Turn X.prog X.w X.K tg J fp it tn ∧ tn 0 s2.heap ∧ (∀ b ∈ fp, FpOk X pins H' b) ∧ R J H'
def PI (X : Cx) (tg iter : Expr) (wi : TI) : Prop :=
  ∀ (pins : List (Addr × Obj)) (s : Shared) (σ : St) (H : Hp) (R : It → Hp → Prop), Inv X pins σ H s → wi σ H R →
    wpAny (model X.prog X.w) X.A (eval iter X.env) (fun v s1 => wpAny (model X.prog X.w) X.A (pyIter v) (PIE X pins σ tg R) X.xe s1) X.xe s

/-- the step ahead of the store is nothing for an iterator that keeps no tuple -/
theorem go_of {M : Model} {A : Around} {E : Value → Shared → Prop} {s : Shared} {tg : Expr} {it : Addr} {u : Value} {o : Obj} {n : String} {vs : Array Value} {Q : Unit → Shared → Prop} (ho : s.heap.get? it = some o) (hc : o.cls = .type n) (hd : o.data = .fields vs)
    (hn : ["enumerate", "zip", "dict_itemiterator", "dict_reverseitemiterator", "odict_iterator", "itertools.zip_longest", "itertools.pairwise"].contains n = false) (hQ : Q () s) : wpAny M A (letOwnedTupleGo tg (.ref it) u) Q E s := by
  unfold letOwnedTupleGo
  cases tg <;> first
    | exact wpAny_pure hQ
    | (cases u <;> first
        | exact wpAny_pure hQ
        | (refine wpAny_bind (wpAny_load ho ?_)
           rw [hc, hd]
           show wpAny M A (if (["enumerate", "zip", "dict_itemiterator", "dict_reverseitemiterator", "odict_iterator", "itertools.zip_longest", "itertools.pairwise"].contains n && vs[0]? == some (rawInt _)) = true then _ else _) Q E s
           rw [if_neg (by intro h; rw [hn, Bool.false_and] at h; cases h)]
           exact wpAny_pure hQ))

/-- the list at a, as it stands at each turn (a loop may append to it) -/
def Itl (K : PySem.W.Frag) (a : Addr) : It :=
  ⟨fun i H => ∃ xs x, SqL K H a xs ∧ xs[i]? = some x, fun i H x H' => H' = H ∧ ∀ xs, SqL K H a xs → xs[i]? = some x, fun i H => ∃ xs, SqL K H a xs ∧ xs.length ≤ i⟩
def Itt (K : PySem.W.Frag) (a : Addr) : It :=
  ⟨fun i H => ∃ xs x, SqT K H a xs ∧ xs[i]? = some x, fun i H x H' => H' = H ∧ ∀ xs, SqT K H a xs → xs[i]? = some x, fun i H => ∃ xs, SqT K H a xs ∧ xs.length ≤ i⟩
theorem turn_list {P : Program} {w : World} {K : PySem.W.Frag} {tg : Expr} (a it : Addr) : Turn P w K tg (Itl K a) [it] it (fun i h => h.IsListIter it a i) where
  mem := by simp
  obj := fun i h st b hb => by
    have e : b = it := by simpa using hb
    subst e
    obtain ⟨o, e, c, d⟩ := st
    exact ⟨o, e, fun v z => by rw [d] at z; cases z⟩
  keep := fun i h h' st k => st.at fun o e => k it (by simp) o e
  item := by
    intro X hP hw hK hc i pins s σ H E I hf st hg
    subst hP hw hK
    obtain ⟨xs, x, hq, hx⟩ := hg
    obtain ⟨its, rv, p, hz⟩ := I.list hq
    obtain ⟨u, hu, ru⟩ := rv.get hx
    obtain ⟨f0, f1, f2, f3, f4, f5⟩ := hf it (by simp)
    refine wpAny_pyNext_list_item st p.isList (x := u) (by simpa using hu) fun h' st' sb => ?_
    have I1 : Inv X pins σ H { s with heap := h' } := I.turned (t' := s.toks) (fun b o hb e => (sb.2 b hb).trans e) f0 f1 f3 f4 f5
    obtain ⟨o, e, c, d⟩ := id st'
    exact ⟨u, rfl, go_of (s := { s with heap := h' }) e c d (by decide) ⟨x, H, I1, ru, ⟨rfl, fun ys hy => by rw [I.list_inj hy hq]; exact hx⟩, st', fun b hb => (hf b hb).1⟩⟩
  done := by
    intro X hP hw hK hc i pins s σ H E I hf st hg
    subst hP hw hK
    obtain ⟨xs, hq, hx⟩ := hg
    obtain ⟨its, rv, p, hz⟩ := I.list hq
    obtain ⟨f0, f1, f2, f3, f4, f5⟩ := hf it (by simp)
    have hl := rv.length
    exact wpAny_pyNext_list_end (I.ok.hd hc) st p.isList (by simp; omega) fun h' eb => ⟨rfl, I.turned (t' := s.toks) (fun b o hb e => eb b o hb e) f0 f1 f3 f4 f5⟩
  self := fun _ _ _ _ _ st h => wpAny_pyIter_listiter st h
theorem turn_tuple {P : Program} {w : World} {K : PySem.W.Frag} {tg : Expr} (a it : Addr) : Turn P w K tg (Itt K a) [it] it (fun i h => h.IsTupleIter it a i) where
  mem := by simp
  obj := fun i h st b hb => by
    have e : b = it := by simpa using hb
    subst e
    obtain ⟨o, e, c, d⟩ := st
    exact ⟨o, e, fun v z => by rw [d] at z; cases z⟩
  keep := fun i h h' st k => st.at fun o e => k it (by simp) o e
  item := by
    intro X hP hw hK hc i pins s σ H E I hf st hg
    subst hP hw hK
    obtain ⟨xs, x, hq, hx⟩ := hg
    obtain ⟨its, rv, p, hz⟩ := I.tuple hq
    obtain ⟨u, hu, ru⟩ := rv.get hx
    obtain ⟨f0, f1, f2, f3, f4, f5⟩ := hf it (by simp)
    refine wpAny_pyNext_tuple_item st (show s.heap.IsTuple a its.toArray from p) (x := u) (by simpa using hu) fun h' st' sb => ?_
    have I1 : Inv X pins σ H { s with heap := h' } := I.turned (t' := s.toks) (fun b o hb e => (sb.2 b hb).trans e) f0 f1 f3 f4 f5
    obtain ⟨o, e, c, d⟩ := id st'
    exact ⟨u, rfl, go_of (s := { s with heap := h' }) e c d (by decide) ⟨x, H, I1, ru, ⟨rfl, fun ys hy => by rw [I.tuple_inj hy hq]; exact hx⟩, st', fun b hb => (hf b hb).1⟩⟩
  done := by
    intro X hP hw hK hc i pins s σ H E I hf st hg
    subst hP hw hK
    obtain ⟨xs, hq, hx⟩ := hg
    obtain ⟨its, rv, p, hz⟩ := I.tuple hq
    obtain ⟨f0, f1, f2, f3, f4, f5⟩ := hf it (by simp)
    have hl := rv.length
    exact wpAny_pyNext_tuple_end (I.ok.hd hc) st (show s.heap.IsTuple a its.toArray from p) (by simp; omega) fun h' eb => ⟨rfl, I.turned (t' := s.toks) (fun b o hb e => eb b o hb e) f0 f1 f3 f4 f5⟩
  self := fun _ _ _ _ _ st h => wpAny_pyIter_tupleiter st h
end L2

namespace L2
open PySem PySem.Spec PyProof.Rows
section
variable {X : Cx} {tg : Expr}
def iList (K : PySem.W.Frag) (tl : TE) : TI := fun σ H R => tl σ H fun x H1 => ∃ a, x = .ref a ∧ (∃ xs, SqL K H1 a xs) ∧ R (Itl K a) H1
def iTup (K : PySem.W.Frag) (tl : TE) : TI := fun σ H R => tl σ H fun x H1 => ∃ a, x = .ref a ∧ (∃ xs, SqT K H1 a xs) ∧ R (Itt K a) H1
theorem pi_list {l : Expr} {tl : TE} (hl : PE X l tl) : PI X tg l (iList X.K tl) := by
  intro pins s σ H R I h
  refine thn (hl pins s σ H _ I h) fun v s1 ⟨x, H1, I1, r1, q1⟩ => ?_
  obtain ⟨a, e, ⟨xs, hq⟩, q⟩ := q1
  subst e
  cases r1
  obtain ⟨its, rv, p, hz⟩ := I1.list hq
  refine wpAny_pyIter_list p.isList ?_
  refine ⟨s1.heap.objs.size, [s1.heap.objs.size], _, _, H1, rfl, I1.kept (t' := s1.toks) fun b o e => Heap.get?_push_of_some _ e, turn_list a _, ⟨_, Heap.get?_push_size _ rfl, rfl, rfl⟩, fun b hb => ?_, q⟩
  have e : b = s1.heap.objs.size := by simpa using hb
  subst e
  exact I1.fpOk (Nat.le_refl _) (I1.hok.fresh (Nat.le_refl _))
theorem pi_tup {l : Expr} {tl : TE} (hl : PE X l tl) : PI X tg l (iTup X.K tl) := by
  intro pins s σ H R I h
  refine thn (hl pins s σ H _ I h) fun v s1 ⟨x, H1, I1, r1, q1⟩ => ?_
  obtain ⟨a, e, ⟨xs, hq⟩, q⟩ := q1
  subst e
  cases r1
  obtain ⟨its, rv, p, hz⟩ := I1.tuple hq
  refine wpAny_pyIter_tuple (show s1.heap.IsTuple a its.toArray from p) ?_
  refine ⟨s1.heap.objs.size, [s1.heap.objs.size], _, _, H1, rfl, I1.kept (t' := s1.toks) fun b o e => Heap.get?_push_of_some _ e, turn_tuple a _, ⟨_, Heap.get?_push_size _ rfl, rfl, rfl⟩, fun b hb => ?_, q⟩
  have e : b = s1.heap.objs.size := by simpa using hb
  subst e
  exact I1.fpOk (Nat.le_refl _) (I1.hok.fresh (Nat.le_refl _))
/-! ### for -/
/-- W: the invariant by the turn and a measure; N: what the body is to reach -/
def tFor (wi : TI) (g : TG) (tb : TS) : TS := fun D σ H => wi σ H fun J H1 => ∃ W : Nat → Nat → St → Hp → Prop, (∃ m, W 0 m σ H1) ∧ ∀ i m σ H, W i m σ H →
  (J.stop i H ∧ D.nx σ H) ∨ (J.go i H ∧ ∃ N : St → Hp → Prop, (∀ σ' H', N σ' H' → ∃ m', m' < m ∧ W (i + 1) m' σ' H') ∧ ∀ x H', J.yld i H x H' → g x σ H' fun σ2 H2 => tb { D with nx := N, ct := N, bk := D.nx } σ2 H2)
/-- the records at fp as they stand -/
def pinsAt (fp : List Addr) (h : Heap) : List (Addr × Obj) := fp.filterMap fun b => (h.get? b).map fun o => (b, o)
theorem mem_pinsAt {fp : List Addr} {h : Heap} {b : Addr} {o : Obj} (hb : b ∈ fp) (e : h.get? b = some o) : (b, o) ∈ pinsAt fp h := List.mem_filterMap.mpr ⟨b, hb, by rw [e]; rfl⟩
theorem of_pinsAt {fp : List Addr} {h : Heap} {p : Addr × Obj} (hp : p ∈ pinsAt fp h) : p.1 ∈ fp ∧ h.get? p.1 = some p.2 := by
  obtain ⟨b, hb, e⟩ := List.mem_filterMap.mp hp
  cases q : h.get? b with
  | none => rw [q] at e; cases e
  | some o =>
    rw [q] at e
    have e' : (b, o) = p := Option.some.inj e
    subst e'
    exact ⟨hb, q⟩
theorem Inv.pinned {pins : List (Addr × Obj)} {σ : St} {H : Hp} {s : Shared} {fp : List Addr} (I : Inv X pins σ H s) (hf : ∀ b ∈ fp, FpOk X pins H b) (ho : ∀ b ∈ fp, ∃ o, s.heap.get? b = some o ∧ ∀ v, o.data ≠ .cell v) : Inv X (pins ++ pinsAt fp s.heap) σ H s :=
  I.pins_of fun p hp => (List.mem_append.mp hp).elim (fun z => I.pin p (List.mem_append_right _ z)) fun z => by
    obtain ⟨hb, e⟩ := of_pinsAt z
    obtain ⟨f0, f1, f2, _⟩ := hf p.1 hb
    obtain ⟨o, e', d⟩ := ho p.1 hb
    rw [e] at e'; cases e'
    exact ⟨e, f0, f1, f2, d⟩
theorem Inv.unpinned {pins pl : List (Addr × Obj)} {σ : St} {H : Hp} {s : Shared} (I : Inv X (pins ++ pl) σ H s) : Inv X pins σ H s := I.pins_of fun p hp => I.pin p (List.mem_append_right _ (List.mem_append_left _ hp))
theorem ps_for {iter : Expr} {body : List Stmt} {wi : TI} {g : TG} {tb : TS} {pos : Pos} (hp : PassesOwn (model X.prog X.w) X.A X.env X.xe) (hc : X.calm = true) (hi : PI X tg iter wi) (hg : PG X tg g) (hb : PSs X body tb)
    (hs : ∀ x, foldedSetIterable iter X.env x = pure x := by intro _; rfl) : PS X (.For tg iter body [] pos) (tFor wi g tb) := by
  intro pins s σ H D I h
  refine wpAny_For (thn (hi pins s σ H _ I h) fun v s1 h1 => thn h1 fun itv s2 h2 => ?_) hs
  obtain ⟨it, fp, tn, J, H2, e, I2, T, st2, f2, W, ⟨m0, w0⟩, turn⟩ := h2
  subst e
  -- what stays true of the iterator's objects through the loop
  have stat : ∀ {H' : Hp}, (∀ b ∈ fp, H' b = none) → ∀ b ∈ fp, FpOk X pins H' b := fun hn b hb => ⟨hn b hb, (f2 b hb).2⟩
  refine codeAny_forLoop_any (fun n s' => ∃ i σ' H', Inv X pins σ' H' s' ∧ tn i s'.heap ∧ (∀ b ∈ fp, H' b = none) ∧ W i n σ' H') ?_ m0 ⟨0, σ, H2, I2, st2, fun b hb => (f2 b hb).1, w0⟩
  rintro n s3 ⟨i, σ3, H3, I3, st3, fr3, w3⟩
  rcases turn i n σ3 H3 w3 with ⟨stop, qn⟩ | ⟨go, N, hN, step⟩
  · refine wpAny_passesOwn hp (thn (T.done X rfl rfl rfl hc i pins s3 σ3 H3 X.xe I3 (stat fr3) st3 stop) fun r s4 ⟨hr, I4⟩ => ?_)
    subst hr
    exact wpAny_execs_nil ⟨σ3, H3, I4, qn⟩
  · refine wpAny_passesOwn hp (thn (T.item X rfl rfl rfl hc i pins s3 σ3 H3 X.xe I3 (stat fr3) st3 go) fun r s4 ⟨u, hr, h4⟩ => ?_)
    subst hr
    refine wpAny_passesOwn hp (thn h4 fun _ s5 ⟨x, H5, I5, r5, y5, st5, fr5⟩ => ?_)
    have I5' := I5.pinned (stat fr5) (T.obj _ _ st5)
    refine wpAny_passesOwn hp (thn (hg _ s5 σ3 H5 x u _ I5' r5 (step x H5 y5)) fun _ s6 ⟨σ6, H6, I6, q6⟩ => ?_)
    refine wpAny_passesOwn hp (thn (hb _ s6 σ6 H6 _ I6 q6) fun f s7 q7 => ?_)
    have again : ∀ {σ7 : St} {H7 : Hp}, Inv X (pins ++ pinsAt fp s5.heap) σ7 H7 s7 → N σ7 H7 → ∃ m, m < n ∧ ∃ i σ' H', Inv X pins σ' H' s7 ∧ tn i s7.heap ∧ (∀ b ∈ fp, H' b = none) ∧ W i m σ' H' := fun {σ7 H7} I7 n7 => by
      obtain ⟨m', hm, w7⟩ := hN σ7 H7 n7
      refine ⟨m', hm, i + 1, σ7, H7, I7.unpinned, T.keep _ _ _ st5 fun b hb o e => (I7.pin (b, o) (List.mem_append_right _ (List.mem_append_right _ (mem_pinsAt hb e)))).1, fun b hb => ?_, w7⟩
      obtain ⟨o, e, d⟩ := T.obj _ _ st5 b hb
      exact (I7.pin (b, o) (List.mem_append_right _ (List.mem_append_right _ (mem_pinsAt hb e)))).2.1
    cases f with
    | next => obtain ⟨σ7, H7, I7, n7⟩ := q7; exact again I7 n7
    | cont => obtain ⟨σ7, H7, I7, n7⟩ := q7; exact again I7 n7
    | brk => obtain ⟨σ7, H7, I7, q7⟩ := q7; exact ⟨σ7, H7, I7.unpinned, q7⟩
    | ret v => obtain ⟨x7, σ7, H7, I7, r7, q7⟩ := q7; exact ⟨x7, σ7, H7, I7.unpinned, r7, q7⟩
end

/-! ### the forms one uses -/
/-- over a list that the body leaves as it is -/
theorem for_list {K : PySem.W.Frag} {a : Addr} {xs : List V} {g : TG} {tb : TS} {D : Ends} {σ : St} {H : Hp} (Pv : Nat → St → Hp → Prop) (h0 : Pv 0 σ H) (hl : ∀ i σ H, i ≤ xs.length → Pv i σ H → SqL K H a xs)
    (hs : ∀ i x σ H, xs[i]? = some x → Pv i σ H → g x σ H fun σ2 H2 => tb { D with nx := Pv (i + 1), ct := Pv (i + 1), bk := D.nx } σ2 H2) (hd : ∀ σ H, Pv xs.length σ H → D.nx σ H) :
    ∃ W : Nat → Nat → St → Hp → Prop, (∃ m, W 0 m σ H) ∧ ∀ i m σ H, W i m σ H →
      ((Itl K a).stop i H ∧ D.nx σ H) ∨ ((Itl K a).go i H ∧ ∃ N : St → Hp → Prop, (∀ σ' H', N σ' H' → ∃ m', m' < m ∧ W (i + 1) m' σ' H') ∧ ∀ x H', (Itl K a).yld i H x H' → g x σ H' fun σ2 H2 => tb { D with nx := N, ct := N, bk := D.nx } σ2 H2) := by
  refine ⟨fun i m σ H => m = xs.length - i ∧ i ≤ xs.length ∧ Pv i σ H, ⟨xs.length, by simp, Nat.zero_le _, h0⟩, ?_⟩
  rintro i m σ H ⟨rfl, hi, p⟩
  have q := hl i σ H hi p
  by_cases hlt : i < xs.length
  · refine .inr ⟨⟨xs, xs[i], q, by simp [hlt]⟩, Pv (i + 1), fun σ' H' p' => ⟨xs.length - (i + 1), by omega, rfl, hlt, p'⟩, fun x H' y => ?_⟩
    obtain ⟨e, y⟩ := y
    subst e
    exact hs i x σ _ (y xs q) p
  · have e : i = xs.length := by omega
    subst e
    exact .inl ⟨⟨xs, q, Nat.le_refl _⟩, hd σ H p⟩
theorem for_tup {K : PySem.W.Frag} {a : Addr} {xs : List V} {g : TG} {tb : TS} {D : Ends} {σ : St} {H : Hp} (Pv : Nat → St → Hp → Prop) (h0 : Pv 0 σ H) (hl : ∀ i σ H, i ≤ xs.length → Pv i σ H → SqT K H a xs)
    (hs : ∀ i x σ H, xs[i]? = some x → Pv i σ H → g x σ H fun σ2 H2 => tb { D with nx := Pv (i + 1), ct := Pv (i + 1), bk := D.nx } σ2 H2) (hd : ∀ σ H, Pv xs.length σ H → D.nx σ H) :
    ∃ W : Nat → Nat → St → Hp → Prop, (∃ m, W 0 m σ H) ∧ ∀ i m σ H, W i m σ H →
      ((Itt K a).stop i H ∧ D.nx σ H) ∨ ((Itt K a).go i H ∧ ∃ N : St → Hp → Prop, (∀ σ' H', N σ' H' → ∃ m', m' < m ∧ W (i + 1) m' σ' H') ∧ ∀ x H', (Itt K a).yld i H x H' → g x σ H' fun σ2 H2 => tb { D with nx := N, ct := N, bk := D.nx } σ2 H2) := by
  refine ⟨fun i m σ H => m = xs.length - i ∧ i ≤ xs.length ∧ Pv i σ H, ⟨xs.length, by simp, Nat.zero_le _, h0⟩, ?_⟩
  rintro i m σ H ⟨rfl, hi, p⟩
  have q := hl i σ H hi p
  by_cases hlt : i < xs.length
  · refine .inr ⟨⟨xs, xs[i], q, by simp [hlt]⟩, Pv (i + 1), fun σ' H' p' => ⟨xs.length - (i + 1), by omega, rfl, hlt, p'⟩, fun x H' y => ?_⟩
    obtain ⟨e, y⟩ := y
    subst e
    exact hs i x σ _ (y xs q) p
  · have e : i = xs.length := by omega
    subst e
    exact .inl ⟨⟨xs, q, Nat.le_refl _⟩, hd σ H p⟩
end L2

namespace L2
open PySem PySem.Spec PyProof.Rows

abbrev R2 := V → V → Hp → VK → Prop
/-- a two-place operation on values: f is binaryOp op, inplaceOp op or compareOp op -/
def OpR (X : Cx) (f : Value → Value → Sem Value) (r : R2) : Prop :=
  ∀ (pins : List (Addr × Obj)) (s : Shared) (σ : St) (H : Hp) (x y : V) (v u : Value) (Q : VK), Inv X pins σ H s → RelV x v → RelV y u → r x y H Q →
    wpAny (model X.prog X.w) X.A (f v u) (EP X pins σ Q) X.xe s
/-- a one-place operation -/
def UnR (X : Cx) (f : Value → Sem Value) (r : V → Hp → VK → Prop) : Prop :=
  ∀ (pins : List (Addr × Obj)) (s : Shared) (σ : St) (H : Hp) (x : V) (v : Value) (Q : VK), Inv X pins σ H s → RelV x v → r x H Q →
    wpAny (model X.prog X.w) X.A (f v) (EP X pins σ Q) X.xe s
/-- a call of a value that is known (a builtin, a type) with values -/
def CallR (X : Cx) (f : Value) (r : List V → Hp → VK → Prop) : Prop :=
  ∀ (pins : List (Addr × Obj)) (s : Shared) (σ : St) (H : Hp) (xs : List V) (us : List Value) (Q : VK), Inv X pins σ H s → Vals xs us → r xs H Q →
    wpAny (model X.prog X.w) X.A (call f us) (EP X pins σ Q) X.xe s
def tOp (r : R2) (ta tb : TE) : TE := fun σ H Q => ta σ H fun x H1 => tb σ H1 fun y H2 => r x y H2 Q
def tUn (r : V → Hp → VK → Prop) (ta : TE) : TE := fun σ H Q => ta σ H fun x H1 => r x H1 Q
/-- ints in, under C, and a value out -/
def rI (C : Int → Int → Prop) (g : Int → Int → V) : R2 := fun x y H Q => ∃ i j, x = .int i ∧ y = .int j ∧ C i j ∧ Q (g i j) H
def rI0 (g : Int → Int → V) : R2 := fun x y H Q => ∃ i j, x = .int i ∧ y = .int j ∧ Q (g i j) H
def rU (g : Int → V) : V → Hp → VK → Prop := fun x H Q => ∃ i, x = .int i ∧ Q (g i) H

section
variable {X : Cx} {a b c : Expr} {ta tb tc : TE} {pos : Pos}

theorem binT (ha : PE X a ta) (hb : PE X b tb) {pins : List (Addr × Obj)} {s : Shared} {σ : St} {H : Hp} {R : V → V → Hp → Prop} (I : Inv X pins σ H s)
    (h : ta σ H fun x H1 => tb σ H1 fun y H2 => R x y H2) {Q : Value → Shared → Prop} {f : Value → Value → Sem Value}
    (hf : ∀ v u s2 x y H2, Inv X pins σ H2 s2 → RelV x v → RelV y u → R x y H2 → wpAny (model X.prog X.w) X.A (f v u) Q X.xe s2) :
    wpAny (model X.prog X.w) X.A (eval a X.env) (fun v s₁ => wpAny (model X.prog X.w) X.A (eval b X.env) (fun u s₂ => wpAny (model X.prog X.w) X.A (f v u) Q X.xe s₂) X.xe s₁) X.xe s := by
  refine thn (ha pins s σ H _ I h) fun v s1 ⟨x, H1, I1, r1, q1⟩ => ?_
  refine thn (hb pins s1 σ H1 _ I1 q1) fun u s2 ⟨y, H2, I2, r2, q2⟩ => ?_
  exact hf v u s2 x y H2 I2 r1 r2 q2

theorem pe_op {op : Operator} {r : R2} (ho : OpR X (binaryOp op) r) (ha : PE X a ta) (hb : PE X b tb) : PE X (.BinOp a op b pos) (tOp r ta tb) := by
  intro pins s σ H Q I h
  exact wpAny_BinOp (binT ha hb I h fun v u s2 x y H2 I2 rx ry q => ho pins s2 σ H2 x y v u Q I2 rx ry q)
theorem pe_un {op : UnaryOp} {r : V → Hp → VK → Prop} (ho : UnR X (unaryOp op) r) (ha : PE X a ta) : PE X (.UnaryOp op a pos) (tUn r ta) := by
  intro pins s σ H Q I h
  exact UnaryOp_ (thn (ha pins s σ H _ I h) fun v s1 ⟨x, H1, I1, r1, q1⟩ => ho pins s1 σ H1 x v Q I1 r1 q1)
/-! ### ints -/
theorem opI {f : Value → Value → Sem Value} {C : Int → Int → Prop} {g : Int → Int → Int}
    (rule : ∀ (i j : Int) (t u : Tok) (s : Shared) (Q : Value → Shared → Prop) (E : Value → Shared → Prop), C i j → Q (.int (g i j) s.toks) { s with toks := s.toks + 1 } → wpAny (model X.prog X.w) X.A (f (.int i t) (.int j u)) Q E s) :
    OpR X f (rI C fun i j => .int (g i j)) := by
  intro pins s σ H x y v u Q I rx ry h
  obtain ⟨i, j, rfl, rfl, hc, q⟩ := h
  obtain ⟨t, rfl⟩ := rx
  obtain ⟨t', rfl⟩ := ry
  exact rule i j t t' s _ _ hc ⟨.int (g i j), H, I.tok _, ⟨_, rfl⟩, q⟩
theorem opI0 {f : Value → Value → Sem Value} {g : Int → Int → Int}
    (rule : ∀ (i j : Int) (t u : Tok) (s : Shared) (Q : Value → Shared → Prop) (E : Value → Shared → Prop), Q (.int (g i j) s.toks) { s with toks := s.toks + 1 } → wpAny (model X.prog X.w) X.A (f (.int i t) (.int j u)) Q E s) :
    OpR X f (rI0 fun i j => .int (g i j)) := by
  intro pins s σ H x y v u Q I rx ry h
  obtain ⟨i, j, rfl, rfl, q⟩ := h
  obtain ⟨t, rfl⟩ := rx
  obtain ⟨t', rfl⟩ := ry
  exact rule i j t t' s _ _ ⟨.int (g i j), H, I.tok _, ⟨_, rfl⟩, q⟩
theorem opB0 {f : Value → Value → Sem Value} {g : Int → Int → Bool}
    (rule : ∀ (i j : Int) (t u : Tok) (s : Shared) (Q : Value → Shared → Prop) (E : Value → Shared → Prop), Q (.bool (g i j)) s → wpAny (model X.prog X.w) X.A (f (.int i t) (.int j u)) Q E s) :
    OpR X f (rI0 fun i j => .bl (g i j)) := by
  intro pins s σ H x y v u Q I rx ry h
  obtain ⟨i, j, rfl, rfl, q⟩ := h
  obtain ⟨t, rfl⟩ := rx
  obtain ⟨t', rfl⟩ := ry
  exact rule i j t t' s _ _ ⟨.bl (g i j), H, I, rfl, q⟩

def CDiv (i j : Int) : Prop := 0 < j ∧ j < 1073741824
def CMul (i j : Int) : Prop := (-(2 ^ 64) < i ∧ i < 2 ^ 64) ∨ (-(2 ^ 64) < j ∧ j < 2 ^ 64)
theorem CMul.ok {i j : Int} (h : CMul i j) : IntMulOk i j := by
  rcases h with ⟨h1, h2⟩ | ⟨h1, h2⟩
  · exact .of_left (intBits_le_64 h1 h2)
  · exact .of_right (intBits_le_64 h1 h2)
theorem op_add : OpR X (binaryOp .Add) (rI0 fun i j => .int (i + j)) := opI0 fun _ _ _ _ _ _ _ q => add_int q
theorem op_sub : OpR X (binaryOp .Sub) (rI0 fun i j => .int (i - j)) := opI0 fun _ _ _ _ _ _ _ q => sub_int q
theorem op_mul : OpR X (binaryOp .Mult) (rI CMul fun i j => .int (i * j)) := opI fun _ _ _ _ _ _ _ hc q => mul_int q hc.ok
/-- // by a positive divisor -/
theorem op_fdiv : OpR X (binaryOp .FloorDiv) (rI CDiv fun i j => .int (i / j)) := opI fun i j _ _ _ _ _ hc q => by
  have h1 : (0 : Int) < j := hc.1
  have h2 : j < 1073741824 := hc.2
  exact floordiv_int (by omega) (by rw [Int.fdiv_eq_ediv_of_nonneg i (by omega)]; exact q) (.inl (PyProof.noPylong_small (by omega)))
/-- % by a positive divisor of any size -/
theorem op_mod : OpR X (binaryOp .Mod) (rI (fun _ j => 0 < j) fun i j => .int (i % j)) := opI fun i j _ _ _ _ _ hc q => by
  have h1 : (0 : Int) < j := hc
  exact mod_int' (by omega) (by rw [Int.fmod_eq_emod_of_nonneg i (by omega)]; exact q)
theorem unI {f : Value → Sem Value} {g : Int → Int}
    (rule : ∀ (i : Int) (t : Tok) (s : Shared) (Q : Value → Shared → Prop) (E : Value → Shared → Prop), Q (.int (g i) s.toks) { s with toks := s.toks + 1 } → wpAny (model X.prog X.w) X.A (f (.int i t)) Q E s) :
    UnR X f (rU fun i => .int (g i)) := by
  intro pins s σ H x v Q I rx h
  obtain ⟨i, rfl, q⟩ := h
  obtain ⟨t, rfl⟩ := rx
  exact rule i t s _ _ ⟨.int (g i), H, I.tok _, ⟨_, rfl⟩, q⟩
theorem un_neg : UnR X (unaryOp .USub) (rU fun i => .int (-i)) := unI fun _ _ _ _ _ q => neg_int q
/-! ### bools among ints: n += (a < b) -/
end

/-! ### comparisons -/
/-- the scalars that == tells apart as data does -/
def scal : V → V → Bool
  | .non, .non => true | .non, .int _ => true | .int _, .non => true | .non, .bl _ => true | .bl _, .non => true | .non, .str _ => true | .str _, .non => true
  | .int _, .int _ => true | .bl _, .bl _ => true | .str _, .str _ => true | .byt _, .byt _ => true
  | .int _, .str _ => true | .str _, .int _ => true | .bl _, .str _ => true | .str _, .bl _ => true
  | _, _ => false
def rEq : R2 := fun x y H Q => scal x y = true ∧ Q (.bl (decide (x = y))) H
def rNe : R2 := fun x y H Q => scal x y = true ∧ Q (.bl (!decide (x = y))) H

theorem dec_int {i j : Int} : decide (V.int i = V.int j) = (i == j) := by
  rw [Bool.eq_iff_iff]
  simp
theorem dec_bl {i j : Bool} : decide (V.bl i = V.bl j) = (i == j) := by
  rw [Bool.eq_iff_iff]
  simp
theorem dec_str {i j : Str} : decide (V.str i = V.str j) = (i == j) := by
  rw [Bool.eq_iff_iff]
  simp
theorem dec_byt {i j : Array UInt8} : decide (V.byt i = V.byt j) = (i.toList == j.toList) := by
  rw [Bool.eq_iff_iff]
  cases i
  cases j
  simp

section
variable {X : Cx} {a b c : Expr} {ta tb tc : TE} {pos : Pos}
theorem fin_bl {pins : List (Addr × Obj)} {σ : St} {H : Hp} {s : Shared} {Q : VK} {k k' : Bool} (I : Inv X pins σ H s) (q : Q (.bl k) H) (e : k = k') : EP X pins σ Q (.bool k') s := by
  subst e
  exact ⟨.bl k, H, I, rfl, q⟩
theorem op_eq : OpR X (compareOp .Eq) rEq := by
  intro pins s σ H x y v u Q I rx ry h
  obtain ⟨hs, q⟩ := h
  cases x with
  | non =>
    cases rx
    cases y with
    | non => cases ry; exact PySem.EqNone.eq_none_none (fin_bl I q (by simp))
    | bl j => cases ry; exact PySem.EqNone.eq_none_bool (fin_bl I q (by simp))
    | int j => obtain ⟨t', rfl⟩ := ry; exact PySem.EqNone.eq_none_int (fin_bl I q (by simp))
    | str j => obtain ⟨t', rfl⟩ := ry; exact PySem.EqNone.eq_none_str (fin_bl I q (by simp))
    | _ => exact absurd (show false = true from hs) Bool.false_ne_true
  | bl i =>
    cases rx
    cases y with
    | non => cases ry; exact PySem.EqNone.eq_bool_none (fin_bl I q (by simp))
    | bl j => cases ry; exact eq_bool (fin_bl I q dec_bl)
    | str j => obtain ⟨t', rfl⟩ := ry; exact PySem.EqMixed.eq_bool_str (fin_bl I q (by simp))
    | _ => exact absurd (show false = true from hs) Bool.false_ne_true
  | int i =>
    obtain ⟨t, rfl⟩ := rx
    cases y with
    | non => cases ry; exact PySem.EqNone.eq_int_none (fin_bl I q (by simp))
    | int j => obtain ⟨t', rfl⟩ := ry; exact eq_int (fin_bl I q dec_int)
    | str j => obtain ⟨t', rfl⟩ := ry; exact PySem.EqMixed.eq_int_str (fin_bl I q (by simp))
    | _ => exact absurd (show false = true from hs) Bool.false_ne_true
  | str i =>
    obtain ⟨t, rfl⟩ := rx
    cases y with
    | non => cases ry; exact PySem.EqNone.eq_str_none (fin_bl I q (by simp))
    | bl j => cases ry; exact PySem.EqMixed.eq_str_bool (fin_bl I q (by simp))
    | int j => obtain ⟨t', rfl⟩ := ry; exact PySem.EqMixed.eq_str_int (fin_bl I q (by simp))
    | str j => obtain ⟨t', rfl⟩ := ry; exact eq_str (fin_bl I q dec_str)
    | _ => exact absurd (show false = true from hs) Bool.false_ne_true
  | byt i =>
    obtain ⟨t, rfl⟩ := rx
    cases y with
    | byt j => obtain ⟨t', rfl⟩ := ry; exact PySem.W.eq_bytes (fin_bl I q dec_byt)
    | _ => exact absurd (show false = true from hs) Bool.false_ne_true
  | _ => cases y <;> exact absurd (show false = true from hs) Bool.false_ne_true
theorem op_ne : OpR X (compareOp .NotEq) rNe := by
  intro pins s σ H x y v u Q I rx ry h
  obtain ⟨hs, q⟩ := h
  cases x with
  | non =>
    cases rx
    cases y with
    | non => cases ry; exact PySem.EqNone.ne_none_none (fin_bl I q (by simp))
    | bl j => cases ry; exact PySem.EqNone.ne_none_bool (fin_bl I q (by simp))
    | int j => obtain ⟨t', rfl⟩ := ry; exact PySem.EqNone.ne_none_int (fin_bl I q (by simp))
    | str j => obtain ⟨t', rfl⟩ := ry; exact PySem.EqNone.ne_none_str (fin_bl I q (by simp))
    | _ => exact absurd (show false = true from hs) Bool.false_ne_true
  | bl i =>
    cases rx
    cases y with
    | non => cases ry; exact PySem.EqNone.ne_bool_none (fin_bl I q (by simp))
    | bl j => cases ry; exact ne_bool (fin_bl I q (congrArg not dec_bl))
    | str j => obtain ⟨t', rfl⟩ := ry; exact PySem.EqMixed.ne_bool_str (fin_bl I q (by simp))
    | _ => exact absurd (show false = true from hs) Bool.false_ne_true
  | int i =>
    obtain ⟨t, rfl⟩ := rx
    cases y with
    | non => cases ry; exact PySem.EqNone.ne_int_none (fin_bl I q (by simp))
    | int j => obtain ⟨t', rfl⟩ := ry; exact ne_int (fin_bl I q (congrArg not dec_int))
    | str j => obtain ⟨t', rfl⟩ := ry; exact PySem.EqMixed.ne_int_str (fin_bl I q (by simp))
    | _ => exact absurd (show false = true from hs) Bool.false_ne_true
  | str i =>
    obtain ⟨t, rfl⟩ := rx
    cases y with
    | non => cases ry; exact PySem.EqNone.ne_str_none (fin_bl I q (by simp))
    | bl j => cases ry; exact PySem.EqMixed.ne_str_bool (fin_bl I q (by simp))
    | int j => obtain ⟨t', rfl⟩ := ry; exact PySem.EqMixed.ne_str_int (fin_bl I q (by simp))
    | str j => obtain ⟨t', rfl⟩ := ry; exact ne_str (fin_bl I q (congrArg not dec_str))
    | _ => exact absurd (show false = true from hs) Bool.false_ne_true
  | byt i =>
    obtain ⟨t, rfl⟩ := rx
    cases y with
    | byt j => obtain ⟨t', rfl⟩ := ry; exact PySem.W.ne_bytes (fin_bl I q (congrArg not dec_byt))
    | _ => exact absurd (show false = true from hs) Bool.false_ne_true
  | _ => cases y <;> exact absurd (show false = true from hs) Bool.false_ne_true

theorem op_lt : OpR X (compareOp .Lt) (rI0 fun i j => .bl (decide (i < j))) := opB0 fun _ _ _ _ _ _ _ q => lt_int q
theorem op_le : OpR X (compareOp .LtE) (rI0 fun i j => .bl (decide (i ≤ j))) := opB0 fun _ _ _ _ _ _ _ q => le_int q
theorem op_gt : OpR X (compareOp .Gt) (rI0 fun i j => .bl (decide (j < i))) := opB0 fun _ _ _ _ _ _ _ q => gt_int q
theorem op_ge : OpR X (compareOp .GtE) (rI0 fun i j => .bl (decide (j ≤ i))) := opB0 fun _ _ _ _ _ _ _ q => ge_int q
/-- is None, is not None: the right side a value none -/
theorem op_isN : OpR X (compareOp .Is) (fun x y H Q => y = .non ∧ Q (.bl (decide (x = .non))) H) := by
  intro pins s σ H x y v u Q I rx ry h
  obtain ⟨rfl, q⟩ := h
  cases ry
  refine is_none_gen (fin_bl I q ?_)
  cases x <;> first
    | (cases rx; rfl)
    | (obtain ⟨t, rfl⟩ := rx; rfl)
theorem nomark (b : Expr) {op : CmpOp} (h : op ≠ .In := by decide) (h2 : op ≠ .NotIn := by decide) : behindInMarks op b = false := by
  have e1 : (op == CmpOp.In) = false := by cases op <;> first | rfl | exact absurd rfl h
  have e2 : (op == CmpOp.NotIn) = false := by cases op <;> first | rfl | exact absurd rfl h2
  cases b <;> simp [behindInMarks, e1, e2]
/-- a comparison as a value; hm: nomark b, or (for in, not in) by with_unfolding_all rfl -/
theorem pe_cmpR {op : CmpOp} {r : R2} (ho : OpR X (compareOp op) r) (ha : PE X a ta) (hb : PE X b tb) (hm : behindInMarks op b = false) : PE X (.Compare a [op] [b] pos) (tOp r ta tb) := by
  intro pins s σ H Q I h
  exact wpAny_Compare1 (binT ha hb I h fun v u s2 x y H2 I2 rx ry q => ho pins s2 σ H2 x y v u Q I2 rx ry q) hm
/-- a reading of a value as a test -/
def tTest (t : TE) : TT := fun σ H Q => t σ H fun x H' => ∃ k, x = .bl k ∧ Q k H'
theorem pt_cmpR {op : CmpOp} {r : R2} (ho : OpR X (compareOp op) r) (ha : PE X a ta) (hb : PE X b tb) (hm : behindInMarks op b = false) : PT X (.Compare a [op] [b] pos) (tTest (tOp r ta tb)) := by
  intro pins s σ H Q I h
  refine wpAny_isTrue_Compare1 (thn (ha pins s σ H _ I h) fun v s1 ⟨x, H1, I1, r1, q1⟩ => thn (hb pins s1 σ H1 _ I1 q1) fun u s2 ⟨y, H2, I2, r2, q2⟩ =>
    thn (ho pins s2 σ H2 x y v u _ I2 r1 r2 q2) fun c s3 ⟨z, H3, I3, r3, k, e, q3⟩ => ?_) hm
  subst e
  cases r3
  exact wpAny_truthy_bool ⟨H3, I3, q3⟩
/-! ### truth -/
theorem line63 : (sizeLine : Nat) < 2 ^ 63 := by rw [sizeLine_eq]; decide
/-! ### strs and bytes -/
/-! ### scalar builtins, by CallR -/
theorem vals1 {x : V} {us : List Value} (r : Vals [x] us) : ∃ u, us = [u] ∧ RelV x u := by
  cases r with
  | cons r1 r2 => cases r2; exact ⟨_, rfl, r1⟩
theorem vals2 {x y : V} {us : List Value} (r : Vals [x, y] us) : ∃ u w', us = [u, w'] ∧ RelV x u ∧ RelV y w' := by
  cases r with
  | cons r1 r2 =>
    cases r2 with
    | cons r3 r4 => cases r4; exact ⟨_, _, rfl, r1, r3⟩
theorem call_abs : CallR X (.builtin "abs") (fun xs H Q => ∃ i, xs = [.int i] ∧ Q (.int (if i < 0 then -i else i)) H) := by
  intro pins s σ H xs us Q I r h
  obtain ⟨i, rfl, q⟩ := h
  obtain ⟨u, rfl, t, rfl⟩ := vals1 r
  exact call_abs_int fun u tk => ⟨.int (if i < 0 then -i else i), H, I.tok _, ⟨_, rfl⟩, q⟩
theorem call_max2 (hc : X.calm = true) : CallR X (.builtin "max") (fun xs H Q => ∃ i j, xs = [.int i, .int j] ∧ Q (.int (if j > i then j else i)) H) := by
  intro pins s σ H xs us Q I r h
  obtain ⟨i, j, rfl, q⟩ := h
  obtain ⟨u, w', rfl, ⟨t, rfl⟩, ⟨t', rfl⟩⟩ := vals2 r
  refine max_two_ints (I.ok.hd hc) fun h' tk k => ⟨_, H, I.kept k, ?_, q⟩
  by_cases hj : j > i
  · rw [if_pos hj, if_pos hj]; exact ⟨_, rfl⟩
  · rw [if_neg hj, if_neg hj]; exact ⟨_, rfl⟩
theorem call_ord : CallR X (.builtin "ord") (fun xs H Q => ∃ x, xs = [.str x] ∧ x.length = 1 ∧ Q (.int (x.cps.getD 0 0 : Nat)) H) := by
  intro pins s σ H xs us Q I r h
  obtain ⟨x, rfl, hz, q⟩ := h
  obtain ⟨u, rfl, t, rfl⟩ := vals1 r
  exact ord_of_one hz ⟨.int _, H, I.tok _, ⟨_, rfl⟩, q⟩
end
end L2

namespace L2
open PySem PySem.Spec PyProof.Rows

/-! ### an instance, its attributes a map -/
structure ObjM (h : Heap) (x dx C : Addr) (mA : Str → Option Value) : Prop where
  obj : h.get? x = some (PySem.W.instObj C dx)
  ns : h.Ns1 dx mA
  ne : dx ≠ x

theorem lookIn_ns {h : Heap} {dx : Addr} {mA : Str → Option Value} (n : h.Ns1 dx mA) : ∃ od, h.get? dx = some od ∧ ∀ name, PySem.W.lookIn name od = some (mA name) := by
  obtain ⟨o, es, ep, ho, hd, hk, _, hm⟩ := n
  refine ⟨o, ho, fun name => ?_⟩
  have e := hm name
  unfold nsFind findBy at e
  rw [← Array.find?_toList] at e
  unfold PySem.W.lookIn
  rw [hd]
  dsimp only
  split
  · rename_i y q
    rw [q] at e
    exact congrArg some e
  · rename_i q
    rw [q] at e
    have a : es.toList.any (·.refKey) = false := by
      rw [List.any_eq_false]
      intro y hy
      obtain ⟨z, t, hkey⟩ := hk y (Array.mem_toList_iff.mp hy)
      simp [DictEntry.refKey, hkey]
    have a' : ¬ es.toList.any (·.refKey) = true := by rw [a]; exact Bool.false_ne_true
    rw [if_neg a']
    exact congrArg some e

theorem ObjM.look {h : Heap} {x dx C : Addr} {mA : Str → Option Value} (I : ObjM h x dx C mA) : ∃ od, PySem.W.InstAt h x (PySem.W.instObj C dx) C (some od) ∧ ∀ name, PySem.W.lookIn name od = some (mA name) :=
  let ⟨od, ho, hl⟩ := lookIn_ns I.ns
  ⟨od, ⟨I.obj, rfl, rfl, ho⟩, hl⟩

section
variable {prog : Program} {w : World} {A : Around} {E : Value → Shared → Prop} {s : Shared} {K : PySem.W.Frag} {x dx C f : Addr} {mA : Str → Option Value} {name : Str} {v : Value}

theorem get_map {expr : Bool} {Q : Value → Shared → Prop} (X : K.In s.heap) (I : ObjM s.heap x dx C mA) (hg : PySem.W.plainGet K C name = true) (hh : PySem.W.hasDictIn K C = true)
    (ha : PySem.W.findIn K (.ref C) name = some none) (hv : mA name = some v) (hv' : PySem.W.handedIn v = true) (h : Q v { s with toks := s.toks + 1 }) :
    wpAny (model prog w) A (getAttr (.ref x) name expr) Q E s := by
  obtain ⟨od, J, hl⟩ := I.look
  exact PySem.W.get_value X J (PySem.W.plainGet_of hg).1 (PySem.W.findObj_own hh ha rfl (by rw [hl, hv])) hv' h

theorem get_meth {pl : Sem Bool} {Q : Value × List Value → Shared → Prop} (X : K.In s.heap) (I : ObjM s.heap x dx C mA) (hg : PySem.W.plainGet K C name = true)
    (hf : PySem.W.findIn K (.ref C) name = some (some (.ref f))) (ht : PySem.W.isFn K (.ref f) = true) (hv : mA name = none) (h : Q (.ref f, [.ref x]) s) :
    wpAny (model prog w) A (getMethod (.ref x) name pl) Q E s := by
  obtain ⟨od, J, hl⟩ := I.look
  exact PySem.W.method_fn X J (PySem.W.plainGet_of hg).1 (PySem.W.plainGet_of hg).2 hf (beq_iff_eq.mp ht) (by show (PySem.W.lookIn name od).map (·.isSome) = some false; rw [hl, hv]; rfl) h

theorem set_map {ns : List Str} {Q : Unit → Shared → Prop} (X : K.In s.heap) (I : ObjM s.heap x dx C mA)
    (hs : PySem.W.findIn K (.ref C) "__setattr__" = some (some (.builtin "object.__setattr__"))) (hp : PySem.W.plainOver K C = true) (ht : PySem.W.takerIn K C name = some none) (hh : PySem.W.hasDictIn K C = true)
    (hw : PySem.Within mA ns) (hsz : ns.length ≤ sizeLine)
    (h : ∀ h', ObjM h' x dx C (fun y => if y = name then some v else mA y) → Heap.SameBut dx s.heap h' → Q () { s with heap := h', toks := s.toks + 2 }) :
    wpAny (model prog w) A (setAttr (.ref x) name v) Q E s := by
  obtain ⟨od, J, hl⟩ := I.look
  refine PySem.W.set_plain X J hs (PySem.W.osa_open (s := { s with toks := s.toks + 1 }) (r := none) X J hp ht fun b => ?_)
  obtain ⟨cd, hc, hd'⟩ := PySem.W.any_some hh
  have hx : s.heap.get? x = some ⟨.ref C, some dx, .plain, #[]⟩ := I.obj
  refine wpAny_bind (wpAny_pure (wpAny_bind (wpAny_bind (wpAny_loadPart hx (wpAny_bind (PySem.W.Looks.here (s := { s with toks := s.toks + 1 }) (PySem.W.looks_clsIn X hc) ?_))))))
  rw [hd']
  refine wpAny_pure (a := some dx) (wpAny_bind (wpAny_pure (wpAny_bind ?_)))
  refine wpAny_nsSet1 (s := { s with toks := s.toks + 1 }) I.ns fun h' hn2 hs2 => ?_
  obtain ⟨oD, esD, epD, hoD, hdD, hcD⟩ := hn2.count (PySem.Within.cons name v hw)
  refine wpAny_bind (wpAny_lookBehind hoD (by rw [hdD]; exact pastItsLine_dict (Nat.le_trans hcD (by rw [List.length_cons]; omega))) ?_)
  exact wpAny_pure (h _ ⟨(hs2.2 _ (Ne.symm I.ne)).trans I.obj, hn2, I.ne⟩ hs2)

/-- C(..): the dict at the heap's end, the instance behind it; then its __init__ -/
theorem make_map {R : Result → Shared → Prop} {vs : List Value} {kw : List (Str × Value)} (X : K.In s.heap) (hm : PySem.W.makesIn K C = true)
    (hi : PySem.W.findIn K (.ref C) "__init__" = some (some (.ref f))) (hf : PySem.W.typeIn K (.ref f) = some (.type "function"))
    (h : codeAny (model prog w) (A.under (.builtin "type.__call__" ⟨.ref C :: vs, kw⟩)) (.call (.ref f) ⟨.ref (s.heap.objs.size + 1) :: vs, kw⟩) (PySem.W.InitBack (s.heap.objs.size + 1) R)
      { s with heap := (s.heap.push PySem.W.emptyDict).push (PySem.W.instObj C s.heap.objs.size) }) :
    codeAny (model prog w) A (.call (.ref C) ⟨vs, kw⟩) R s := by
  obtain ⟨hh, g, d, t, os⟩ := s
  exact PySem.W.make_core (PySem.W.makes_of X hm) (PySem.W.looks_findIn X hi) (fun self => PySem.W.bind_fn X self hf) (.inl rfl) h
end

/-! ### the attributes as a list of pairs -/
def putF (f : Str) (v : V) : List (Str × V) → List (Str × V)
  | [] => [(f, v)]
  | (g, x) :: r => if g = f then (g, v) :: r else (g, x) :: putF f v r
theorem lookup_putF (f g : Str) (v : V) : ∀ fs : List (Str × V), (putF f v fs).lookup g = if g = f then some v else fs.lookup g
  | [] => by
    show List.lookup g [(f, v)] = _
    by_cases h : g = f
    · have hb : (g == f) = true := beq_iff_eq.mpr h
      simp only [List.lookup, hb, if_pos h]
    · have hb : (g == f) = false := beq_eq_false_iff_ne.mpr h
      simp only [List.lookup, hb, if_neg h]
  | (k, x) :: r => by
    have ih := lookup_putF f g v r
    rw [show putF f v ((k, x) :: r) = (if k = f then (k, v) :: r else (k, x) :: putF f v r) from rfl]
    by_cases hk : k = f
    · rw [if_pos hk]
      by_cases h : g = k
      · have hb : (g == k) = true := beq_iff_eq.mpr h
        simp only [List.lookup, hb, if_pos (h.trans hk)]
      · have hb : (g == k) = false := beq_eq_false_iff_ne.mpr h
        simp only [List.lookup, hb, if_neg (fun e : g = f => h (e.trans hk.symm))]
    · rw [if_neg hk]
      by_cases h : g = k
      · have hb : (g == k) = true := beq_iff_eq.mpr h
        simp only [List.lookup, hb, if_neg (fun e : g = f => hk (h.symm.trans e))]
      · have hb : (g == k) = false := beq_eq_false_iff_ne.mpr h
        simp only [List.lookup, hb]
        exact ih
theorem keys_putF (f : Str) (v : V) : ∀ fs : List (Str × V), f ∈ (putF f v fs).map (·.1) ∧ ∀ g, g ∈ fs.map (·.1) → g ∈ (putF f v fs).map (·.1)
  | [] => ⟨by simp [putF], fun g h => by simp at h⟩
  | (k, x) :: r => by
    obtain ⟨i1, i2⟩ := keys_putF f v r
    rw [show putF f v ((k, x) :: r) = (if k = f then (k, v) :: r else (k, x) :: putF f v r) from rfl]
    by_cases hk : k = f
    · rw [if_pos hk]
      subst hk
      exact ⟨by simp, fun g h => by simpa using h⟩
    · rw [if_neg hk]
      refine ⟨?_, fun g h => ?_⟩
      · rw [List.map_cons]
        exact List.mem_cons_of_mem _ i1
      · rw [List.map_cons] at h ⊢
        rcases List.mem_cons.mp h with e | e
        · exact List.mem_cons.mpr (.inl e)
        · exact List.mem_cons_of_mem _ (i2 g e)
theorem length_putF (f : Str) (v : V) : ∀ fs : List (Str × V), (putF f v fs).length ≤ fs.length + 1
  | [] => by simp [putF]
  | (k, x) :: r => by
    have ih := length_putF f v r
    rw [show putF f v ((k, x) :: r) = (if k = f then (k, v) :: r else (k, x) :: putF f v r) from rfl]
    by_cases hk : k = f
    · rw [if_pos hk, List.length_cons, List.length_cons]; omega
    · rw [if_neg hk, List.length_cons, List.length_cons]; omega

theorem RelO.some_of {v : V} {o : Option Value} (r : RelO (some v) o) : ∃ u, o = some u ∧ RelV v u := by
  cases o with
  | none => exact (show False from r).elim
  | some u => exact ⟨u, rfl, r⟩
theorem RelO.none_of {o : Option Value} (r : RelO none o) : o = none := by
  cases o with
  | none => rfl
  | some u => exact (show False from r).elim
theorem handed_of {v : V} {u : Value} (r : RelV v u) : PySem.W.handedIn u = true := by
  cases v with
  | non => cases (show u = Value.none from r); rfl
  | bl b => cases (show u = Value.bool b from r); rfl
  | int i => obtain ⟨t, e⟩ := (show ∃ t, u = Value.int i t from r); cases e; rfl
  | str x => obtain ⟨t, e⟩ := (show ∃ t, u = Value.str x t from r); cases e; rfl
  | byt b => obtain ⟨t, e⟩ := (show ∃ t, u = Value.bytes b t from r); cases e; rfl
  | flt b => obtain ⟨t, e⟩ := (show ∃ t, u = Value.float b t from r); cases e; rfl
  | ref a => cases (show u = Value.ref a from r); rfl
  | ty n => cases (show u = Value.type n from r); rfl

section
variable {P : Program} {w : World} {H H' : Hp} {h h' : Heap} {a C dx : Addr} {fs fs' : List (Str × V)}
theorem ins_get (hok : HOk P w H h) (e : H a = some (.ins C dx fs)) : ∃ mA, ObjM h a dx C mA ∧ (∀ f, RelO (fs.lookup f) (mA f)) ∧ PySem.Within mA (fs.map (·.1)) ∧ fs.length ≤ 1000 ∧ H dx = some (.own a) := by
  obtain ⟨d, z, ne, ob, mA, n, r, q⟩ := (show ObjOk P w H h a (.ins C dx fs) from hok a _ e)
  exact ⟨mA, ⟨ob, n, ne⟩, r, q, z, d⟩
end

/-! ### what of the text a class must have -/
structure Cls (K : PySem.W.Frag) (C : Addr) : Prop where
  pg : PySem.W.plainGet K C Str.empty = true
  hd : PySem.W.hasDictIn K C = true
  po : PySem.W.plainOver K C = true
  sa : PySem.W.findIn K (.ref C) "__setattr__" = some (some (.builtin "object.__setattr__"))
theorem Cls.get {K : PySem.W.Frag} {C : Addr} (c : Cls K C) (f : Str) : PySem.W.plainGet K C f = true := c.pg
/-- no class of it has the name -/
def NoAttr (K : PySem.W.Frag) (C : Addr) (f : Str) : Prop := PySem.W.findIn K (.ref C) f = some none
theorem NoAttr.taker {K : PySem.W.Frag} {C : Addr} {f : Str} (n : NoAttr K C f) : PySem.W.takerIn K C f = some none := by
  unfold PySem.W.takerIn
  rw [show PySem.W.findIn K (.ref C) f = some none from n]
  rfl
/-- a constant of the class -/
structure Con (K : PySem.W.Frag) (C : Addr) (f : Str) (v : V) (u : Value) : Prop where
  at_ : PySem.W.findIn K (.ref C) f = some (some u)
  rel : RelV v u
  get : PySem.W.specialIn K u "__get__" = some none
  cp : PySem.W.copiedNames.contains f = false
/-- a method: a plain def of the class or of one above it -/
structure Meth (K : PySem.W.Frag) (C : Addr) (m : Str) (f : Addr) : Prop where
  at_ : PySem.W.findIn K (.ref C) m = some (some (.ref f))
  fn : PySem.W.isFn K (.ref f) = true
  kp : PySem.W.keepIn K (.ref f) = true

section
variable {X : Cx} {pins : List (Addr × Obj)} {σ : St} {H : Hp} {s : Shared} {a C dx : Addr} {fs : List (Str × V)} {f : Str} {v : V} {A : Around} {E : Value → Shared → Prop}

theorem getattr_ok {b : Bool} {Q : Value → Shared → Prop} (I : Inv X pins σ H s) (e : H a = some (.ins C dx fs)) (c : Cls X.K C) (n : NoAttr X.K C f) (l : fs.lookup f = some v)
    (h : ∀ u s', Inv X pins σ H s' → RelV v u → Q u s') : wpAny (model X.prog X.w) A (getAttr (.ref a) f b) Q E s := by
  obtain ⟨mA, O, r, _, _, _⟩ := ins_get I.hok e
  obtain ⟨u, hu, ru⟩ := RelO.some_of (v := v) (o := mA f) (by rw [← l]; exact r f)
  exact get_map I.kIn O (c.get f) c.hd n hu (handed_of ru) (h u _ (I.tok _) ru)

theorem getmeth_ok {m : Str} {g : Addr} {pl : Sem Bool} {Q : Value × List Value → Shared → Prop} (I : Inv X pins σ H s) (e : H a = some (.ins C dx fs)) (c : Cls X.K C) (k : Meth X.K C m g) (l : fs.lookup m = none)
    (h : Q (.ref g, [.ref a]) s) : wpAny (model X.prog X.w) A (getMethod (.ref a) m pl) Q E s := by
  obtain ⟨mA, O, r, _, _, _⟩ := ins_get I.hok e
  have hn : mA m = none := RelO.none_of (by rw [← l]; exact r m)
  exact get_meth I.kIn O (c.get m) k.at_ k.fn hn h

theorem setattr_ok {y : V} {u : Value} {Q : Unit → Shared → Prop} (I : Inv X pins σ H s) (e : H a = some (.ins C dx fs)) (c : Cls X.K C) (n : NoAttr X.K C f) (hl : fs.length < 1000) (ry : RelV y u)
    (h : ∀ s', Inv X pins σ (upd H a (.ins C dx (putF f y fs))) s' → Q () s') : wpAny (model X.prog X.w) A (setAttr (.ref a) f u) Q E s := by
  obtain ⟨mA, O, r, wi, _, ho⟩ := ins_get I.hok e
  have hz : (fs.map (·.1)).length ≤ sizeLine := by rw [List.length_map, sizeLine_eq]; omega
  refine set_map I.kIn O c.sa c.po n.taker c.hd wi hz fun h' O' sb => h _ ?_
  have hd : ∃ o, h'.get? dx = some o := let ⟨o, _, _, e', _⟩ := O'.ns; ⟨o, e'⟩
  refine I.write (x := a) (e := dx) (by rw [e]; exact True.intro) (.inr ho) (fun b q hb z => (sb.2 b hb).trans z) hd ?_
  refine ⟨by rw [upd_ne O.ne]; exact ho, ?_, O.ne, O'.obj, _, O'.ns, fun g => ?_, fun g hg => ?_⟩
  · have := length_putF f y fs; omega
  · show RelO ((putF f y fs).lookup g) (if g = f then some u else mA g)
    rw [lookup_putF]
    by_cases q : g = f
    · rw [if_pos q, if_pos q]; exact ry
    · rw [if_neg q, if_neg q]; exact r g
  · by_cases q : g = f
    · rw [q]; exact (keys_putF f y fs).1
    · refine (keys_putF f y fs).2 g (wi g fun z => hg ?_)
      show (if g = f then some u else mA g) = none
      rw [if_neg q]; exact z

/-- a new instance, tracked, without attributes -/
theorem Inv.made (I : Inv X pins σ H s) : Inv X pins σ (upd (upd H s.heap.objs.size (.own (s.heap.objs.size + 1))) (s.heap.objs.size + 1) (.ins C s.heap.objs.size []))
    { s with heap := (s.heap.push PySem.W.emptyDict).push (PySem.W.instObj C s.heap.objs.size) } := by
  have e1 : (s.heap.push PySem.W.emptyDict).get? s.heap.objs.size = some PySem.W.emptyDict := Heap.get?_push_size s.heap rfl
  have e2 : ((s.heap.push PySem.W.emptyDict).push (PySem.W.instObj C s.heap.objs.size)).get? (s.heap.objs.size + 1) = some (PySem.W.instObj C s.heap.objs.size) := by
    have := Heap.get?_push_size (s.heap.push PySem.W.emptyDict) (o := PySem.W.instObj C s.heap.objs.size) rfl
    rwa [Heap.size_push] at this
  have e3 : (s.heap.push PySem.W.emptyDict).Ns s.heap.objs.size (fun _ => none) := ⟨PySem.W.emptyDict, #[], _, e1, rfl, (fun e he => absurd he (by simp)), fun _ => rfl⟩
  have I1 := I.laid (a := s.heap.objs.size) (o := .own (s.heap.objs.size + 1)) (h' := s.heap.push PySem.W.emptyDict) (t' := s.toks) (fun b u q => Heap.get?_push_of_some _ q) (Nat.le_refl _) ⟨_, e1⟩
  refine I1.laid (a := s.heap.objs.size + 1) (o := .ins C s.heap.objs.size []) (t' := s.toks) (fun b u q => Heap.get?_push_of_some _ q) (Nat.le_of_eq (Heap.size_push _ _)) ?_
  have ne : s.heap.objs.size ≠ s.heap.objs.size + 1 := Nat.ne_of_lt (Nat.lt_succ_self _)
  refine ⟨by rw [upd_ne ne, upd_same], Nat.zero_le _, ne, e2, fun _ => none, (Heap.Ns1.of_empty e3).at fun o q => Heap.get?_push_of_some _ q, fun _ => True.intro, fun y hy => absurd rfl hy⟩

/-- e.f where nothing but the object is asked: through attributeBase (super) and the last hold -/
theorem attr_of {prog : Program} {w : World} {env : Env} {e : Expr} {f : Str} {pos : Pos} {s : Shared} {Q : Value → Shared → Prop} (hb : attributeBase e f env (eval e env) = eval e env)
    (h : wpAny (model prog w) A (eval e env) (fun o s₁ => wpAny (model prog w) A (getAttr o f true) Q E s₁) E s) : wpAny (model prog w) A (eval (.Attribute e f pos) env) Q E s :=
  Attribute_any_ h (by rw [arm_eval_Attribute, hb])
end

/-! ### readings and rules -/
/-- e.f, an attribute of the instance -/
def tFld (K : PySem.W.Frag) (ta : TE) (f : Str) : TE := fun σ H Q => ta σ H fun x H1 => ∃ a C dx fs v, x = .ref a ∧ H1 a = some (.ins C dx fs) ∧ Cls K C ∧ NoAttr K C f ∧ fs.lookup f = some v ∧ Q v H1
/-- e.f = value -/
def sFld (K : PySem.W.Frag) (ta tv : TE) (f : Str) : TS := fun D σ H => tv σ H fun y H1 => ta σ H1 fun x H2 => ∃ a C dx fs, x = .ref a ∧ H2 a = some (.ins C dx fs) ∧ Cls K C ∧ NoAttr K C f ∧ fs.length < 1000 ∧
  D.nx σ (upd H2 a (.ins C dx (putF f y fs)))
section
variable {X : Cx} {o e value : Expr} {f : Str} {pos pos' tpos : Pos} {ta tv : TE}
theorem pe_fld (he : PE X e ta) (hb : attributeBase e f X.env (eval e X.env) = eval e X.env) : PE X (.Attribute e f pos) (tFld X.K ta f) := by
  intro pins s σ H Q I h
  refine attr_of hb (thn (he pins s σ H _ I h) fun u s1 ⟨x, H1, I1, rx, a, C, dx, fs, v, ex, ea, c, n, l, q⟩ => ?_)
  subst ex
  obtain rfl : u = Value.ref a := rx
  exact getattr_ok I1 ea c n l fun u' s2 I2 ru => ⟨v, H1, I2, ru, q⟩
theorem ps_fld (ha : PE X o ta) (hv : PE X value tv) (hs : swapsWith value (some (.Attribute o f pos')) pos.line X.env = pure false) : PS X (.Assign [.Attribute o f pos'] value pos) (sFld X.K ta tv f) := by
  intro pins s σ H D I h
  refine plainObj_wpAny_Assign_Attribute (thn (hv pins s σ H _ I h) fun u s1 ⟨y, H1, I1, ry, q⟩ => thn (ha pins s1 σ H1 _ I1 q) fun ov s2 ⟨x, H2, I2, rx, a, C, dx, fs, ex, ea, c, n, l, q2⟩ => ?_) hs
  subst ex
  obtain rfl : ov = Value.ref a := rx
  exact setattr_ok I2 ea c n l ry fun s3 I3 => ⟨σ, _, I3, q2⟩
end

/-! ### isinstance -/
section
variable {X : Cx} {pins : List (Addr × Obj)} {σ : St} {H : Hp} {s : Shared} {A : Around} {E : Value → Shared → Prop} {Q : Value → Shared → Prop} {c : Value} {b : Bool}
/-- the type of a value, as the fragment's deciders take it; for an instance its class -/
inductive TyOf (K : PySem.W.Frag) (H : Hp) : V → Value → Prop where
  | non : TyOf K H .non (.type "NoneType")
  | bl (x : Bool) : TyOf K H (.bl x) (.type "bool")
  | int (i : Int) : TyOf K H (.int i) (.type "int")
  | str (x : Str) : TyOf K H (.str x) (.type "str")
  | flt (x : UInt64) : TyOf K H (.flt x) (.type "float")
  | lst {a : Addr} {xs : List V} (e : H a = some (.lst xs)) : TyOf K H (.ref a) (.type "list")
  | frz {a : Addr} {o : Obj} {xs : List V} (e : H a = some (.frz o (.lst xs))) : TyOf K H (.ref a) (.type "list")
  | tup {a : Addr} {xs : List V} (e : H a = some (.tup xs)) : TyOf K H (.ref a) (.type "tuple")
  | dK {a : Addr} {kvs : List (Key × V)} (e : H a = some (.dK kvs)) : TyOf K H (.ref a) (.type "dict")
  | dT {a : Addr} {kvs : List (List Key × V)} (e : H a = some (.dT kvs)) : TyOf K H (.ref a) (.type "dict")
  | ins {a C dx : Addr} {fs : List (Str × V)} (e : H a = some (.ins C dx fs)) (cl : Cls K C) (ha : PySem.W.findIn K (.ref C) "__class__" = some (some (.builtin "object.__class__")))
      (hn : PySem.W.specialIn K (.builtin "object.__class__") "__get__" = some (some (.builtin "getset_descriptor.__get__"))) (htk : PySem.W.takesIn K (.builtin "object.__class__") = some true)
      (hm : PySem.W.mroIn K C (.type "object") = some true) : TyOf K H (.ref a) (.ref C)
end
end L2

namespace L2
open PySem PySem.Spec PyProof.Rows

/-! ### room -/
structure Room (k : Nat) (A : Around) : Prop where
  hd : A.handled = none
  dp : A.depth + 3 * k + 5 < recursionLimit
  un : A.units + 16 * k + 200 < cLine
theorem Room.mono {j k : Nat} {A : Around} (r : Room k A) (h : j ≤ k) : Room j A := ⟨r.hd, by have := r.dp; omega, by have := r.un; omega⟩
theorem Room.deeper {k : Nat} {A : Around} (r : Room (k + 1) A) (env : Env) : Room k (A.deeper env) :=
  ⟨r.hd, by have := r.dp; show A.depth + 1 + 3 * k + 5 < _; omega, by have := r.un; show A.units + 3 + 16 * k + 200 < _; omega⟩
theorem make_depth {A : Around} {C : Addr} {us : List Value} {kw : List (Str × Value)} : (A.under (.builtin "type.__call__" ⟨.ref C :: us, kw⟩)).depth = A.depth + 1 := by
  first | rfl | simp [Around.under, Code.weight, Code.isCreation, Code.isGuard, Code.isCaller, Code.frames, Code.isFrame, guardIds]
theorem make_units {A : Around} {C : Addr} {us : List Value} {kw : List (Str × Value)} : (A.under (.builtin "type.__call__" ⟨.ref C :: us, kw⟩)).units = A.units + 1 := by
  first | rfl | simp [Around.under, Code.cUnits, Code.frames, Code.isFrame]
theorem Room.make {k : Nat} {A : Around} (r : Room (k + 1) A) (C : Addr) (us : List Value) (kw : List (Str × Value)) : Room k (A.under (.builtin "type.__call__" ⟨.ref C :: us, kw⟩)) :=
  ⟨r.hd, by have := r.dp; rw [make_depth]; omega, by have := r.un; rw [make_units]; omega⟩
theorem Room.depth {k : Nat} {A : Around} (r : Room k A) : A.depth < recursionLimit := by have := r.dp; omega
theorem Room.units {k : Nat} {A : Around} (r : Room k A) : A.units + 64 < cLine := by have := r.un; omega
/-! ### argument lists and displays -/
def tNil : TA := fun _ H Q => Q [] H
def tCons (ta : TE) (tr : TA) : TA := fun σ H Q => ta σ H fun x H1 => tr σ H1 fun xs H2 => Q (x :: xs) H2
section
variable {X : Cx} {e : Expr} {es : List Expr} {te : TE} {t : TA} {pos : Pos}
theorem pa_nil : PA X [] tNil := fun _ _ _ _ H Q I h => Calls.spliced_nil ⟨[], H, I, .nil, h⟩
theorem pa_cons (ha : PE X e te) (hr : PA X es t) (hs : starEach (e :: es) X.env = (false, eval e X.env) :: starEach es X.env := by rfl) : PA X (e :: es) (tCons te t) := by
  intro pos pins s σ H Q I h
  rw [hs]
  show wpAny _ _ (spliced ((false, eval e X.env) :: backTo pos (starEach es X.env))) _ _ s
  refine Calls.spliced_cons (thn (ha pins s σ H _ I h) fun u s1 ⟨x, H1, I1, r1, q1⟩ => ?_)
  exact thn (hr pos pins s1 σ H1 _ I1 q1) fun us s2 ⟨xs, H2, I2, r2, q2⟩ => ⟨x :: xs, H2, I2, .cons r1 r2, q2⟩

/-- a tuple, a list of written items -/
def tTup (t : TA) : TE := fun σ H Q => t σ H fun xs H1 => xs.length ≤ sizeLine ∧ ∀ p, H1 p = none → Q (.ref p) (upd H1 p (.tup xs))
def tLst (t : TA) : TE := fun σ H Q => t σ H fun xs H1 => xs.length ≤ sizeLine ∧ ∀ p, H1 p = none → Q (.ref p) (upd H1 p (.lst xs))
theorem pe_tup {x1} (h : PA X es t) : PE X (.Tuple es x1 pos) (tTup t) := by
  intro pins s σ H Q I hq
  refine wpAny_Tuple_spliced (thn (h pos pins s σ H _ I hq) fun us s1 ⟨xs, H1, I1, r, z, q⟩ => ⟨by rw [← r.length]; exact z, ?_⟩)
  have hf : H1 s1.heap.objs.size = none := I1.hok.fresh (Nat.le_refl _)
  refine ⟨.ref s1.heap.objs.size, upd H1 s1.heap.objs.size (.tup xs), I1.laid (t' := s1.toks) (fun b u e => Heap.get?_push_of_some _ e) (Nat.le_refl _) ?_, rfl, q _ hf⟩
  exact ⟨z, us, r, ⟨_, Heap.get?_push_size _ rfl, rfl, _, rfl⟩⟩
theorem pe_lst (h : PA X es t) : PE X (.List es pos) (tLst t) := by
  intro pins s σ H Q I hq
  refine wpAny_List_spliced (thn (h pos pins s σ H _ I hq) fun us s1 ⟨xs, H1, I1, r, z, q⟩ => ⟨by rw [← r.length]; exact z, ?_⟩)
  have hf : H1 s1.heap.objs.size = none := I1.hok.fresh (Nat.le_refl _)
  refine ⟨.ref s1.heap.objs.size, upd H1 s1.heap.objs.size (.lst xs), I1.laid (t' := s1.toks) (fun b u e => Heap.get?_push_of_some _ e) (Nat.le_refl _) ?_, rfl, q _ hf⟩
  exact ⟨z, us, 0, r, Heap.get?_push_size _ rfl⟩
end

/-! ### what a def promises -/
/-- a def's promise: the bound arguments in the parameters' order, the heap, the wanted end, the wanted exception -/
abbrev Sp := List V → Hp → VK → XK → Prop
/-- how an exception lies behind a call (file 08 gives it): the callers' frames, abstract heap and state ahead of the call, the wish, the exception, the state -/
abbrev CXT := List Env → Hp → Shared → XK → Value → Shared → Prop

/-- the state at a call -/
structure Env0 (P : Program) (w : World) (K : PySem.W.Frag) (mg : Str → Option Value) (base : Heap) (A : Around) (outer : List Env) (s : Shared) (H : Hp) : Prop where
  frames : A.frames = some outer
  mod : Mod K mg base
  bs : ∀ b o, base.get? b = some o → s.heap.get? b = some o ∧ H b = none
  bsz : base.objs.size ≤ s.heap.objs.size
  funs : s.heap.FunFrames base outer
  frf : ∀ b ∈ frs outer, H b = none
  hok : HOk P w H s.heap
  bare : AllBare s.gens
/-- a call's end -/
def CE (outer : List Env) (P : Program) (w : World) (H : Hp) (s : Shared) (Q : VK) (u : Value) (s' : Shared) : Prop :=
  ∃ v H', s'.os = s.os ∧ AllBare s'.gens ∧ Un (frs outer) [] H H' s.heap s'.heap ∧ HOk P w H' s'.heap ∧ RelV v u ∧ Q v H'
def CR (CX : CXT) (outer : List Env) (P : Program) (w : World) (H : Hp) (s : Shared) (Q : VK) (E : XK) (r : Result) (s' : Shared) : Prop :=
  match r with
  | .ok (.ret u) => CE outer P w H s Q u s'
  | .ok _ => False
  | .error e => CX outer H s E e s'
structure FnOk (P : Program) (w : World) (K : PySem.W.Frag) (mg : Str → Option Value) (base : Heap) (CX : CXT) (k : Nat) (f : Addr) (fd : FuncData) (ps : List Str) (sp : Sp) : Prop where
  len : ∀ vs H Q E, sp vs H Q E → vs.length = ps.length
  run : ∀ (A : Around) (outer : List Env) (s : Shared) (H : Hp) (args : Args) (us : List Value) (vs : List V) (Q : VK) (E : XK), Room k A → Env0 P w K mg base A outer s H → BindsTo s fd args (ps.zip us) → Vals vs us → sp vs H Q E →
    codeAny (model P w) A (.call (.ref f) args) (CR CX outer P w H s Q E) s
theorem Env0.make {P : Program} {w : World} {K : PySem.W.Frag} {mg : Str → Option Value} {base : Heap} {A : Around} {outer : List Env} {s : Shared} {H : Hp} (e : Env0 P w K mg base A outer s H) (C : Addr) (us : List Value) (kw : List (Str × Value)) :
    Env0 P w K mg base (A.under (.builtin "type.__call__" ⟨.ref C :: us, kw⟩)) outer s H := ⟨by first | exact e.frames | (simpa [Around.under, Code.envs, Code.isFrame, pushEnvs] using e.frames), e.mod, e.bs, e.bsz, e.funs, e.frf, e.hok, e.bare⟩
section
variable {X : Cx} {pins : List (Addr × Obj)} {σ : St} {H : Hp} {s s' : Shared}
/-- from a body: what a callee wants -/
theorem Inv.env0 (I : Inv X pins σ H s) : Env0 X.prog X.w X.K X.mg X.base X.A X.stack s H :=
  ⟨I.ok.frames, I.ok.mod, I.bs, Nat.le_trans I.ok.bsz I.sz, I.stack, I.stkFree, I.hok, I.bare⟩
/-- behind a call -/
theorem Inv.after {Q : VK} {u : Value} (I : Inv X pins σ H s) (h : CE X.stack X.prog X.w H s Q u s') : EP X pins σ Q u s' := by
  obtain ⟨v, H', os, bare, un, hok, r, q⟩ := h
  obtain ⟨hh, g, d, t, os'⟩ := s'
  obtain rfl : os' = s.os := os
  exact ⟨v, H', I.call (h' := hh) (g' := g) (d' := d) (t' := t) (ch := []) un hok bare (fun b z => absurd z (by simp)), r, q⟩
end

/-! ### calls -/
/-- f(..): the written arguments, then the defaults dvs; E: what is wanted of an exception -/
def tCall (sp : Sp) (dvs : List V) (E : XK) (t : TA) : TE := fun σ H Q => t σ H fun vs H1 => sp (vs ++ dvs) H1 Q E
/-- o.m(..) of an instance of the class at C -/
def tMeth (C : Addr) (m : Str) (sp : Sp) (dvs : List V) (E : XK) (ta : TE) (t : TA) : TE := fun σ H Q => ta σ H fun x H1 => ∃ a dx fs, x = .ref a ∧ H1 a = some (.ins C dx fs) ∧ fs.lookup m = none ∧
  t σ H1 fun vs H2 => sp (x :: (vs ++ dvs)) H2 Q E
/-- C(..): a new instance and its dict, then __init__ -/
def tMake (C : Addr) (sp : Sp) (dvs : List V) (E : XK) (t : TA) : TE := fun σ H Q => t σ H fun vs H1 => ∀ x dx, H1 x = none → H1 dx = none → dx ≠ x →
  sp (.ref x :: (vs ++ dvs)) (upd (upd H1 dx (.own x)) x (.ins C dx [])) (fun v H2 => v = .non ∧ Q (.ref x) H2) E

/-- how the parameters are bound: us the positional arguments, kw the keywords' values by name, ds the defaults that fill up -/
def Binds (K : PySem.W.Frag) (fd : FuncData) (ps : List Str) (ds : List Value) : Prop :=
  ∀ (s : Shared) (us : List Value), K.In s.heap → (us ++ ds).length = ps.length → BindsTo s fd ⟨us, []⟩ (ps.zip (us ++ ds))
/-- every parameter is given -/
theorem Binds.all {K : PySem.W.Frag} {fd : FuncData} {ps : List Str} (h : ∀ us : List Value, us.length = ps.length → bindArgs fd ⟨us, []⟩ = pure (ps.zip us)) : Binds K fd ps [] := fun s us _ hl => by
  rw [List.append_nil] at hl ⊢
  exact .of_eq (h us hl)

/-- an exception of a callee reaches what this body wants of exceptions -/
def Passes (CX : CXT) (X : Cx) (E : XK) : Prop := ∀ (pins : List (Addr × Obj)) (σ : St) (H : Hp) (s : Shared) (e : Value) (s' : Shared), Inv X pins σ H s → CX X.stack H s E e s' → X.xe e s'

section
variable {X : Cx} {CX : CXT} {k : Nat} {f C : Addr} {fd : FuncData} {ps : List Str} {sp : Sp} {dvs : List V} {ds : List Value} {E : XK} {x m : Str} {p pos apos : Pos} {e o : Expr} {es : List Expr} {ta : TE} {t : TA}

/-- the callee runs -/
theorem run_fn {pins : List (Addr × Obj)} {σ : St} {H : Hp} {s : Shared} {Q : VK} {us : List Value} {vs : List V} (F : FnOk X.prog X.w X.K X.mg X.base CX k f fd ps sp) (hr : Room k X.A) (hb : Binds X.K fd ps ds) (hd : Vals dvs ds) (hx : Passes CX X E)
    (I : Inv X pins σ H s) (r : Vals vs us) (h : sp (vs ++ dvs) H Q E) : wpAny (model X.prog X.w) X.A (call (.ref f) us) (EP X pins σ Q) X.xe s := by
  have r2 : Vals (vs ++ dvs) (us ++ ds) := r.append hd
  have hl : (us ++ ds).length = ps.length := by rw [← r2.length]; exact F.len _ _ _ _ h
  refine wpAny_call (codeAny_mono (F.run X.A X.stack s H ⟨us, []⟩ (us ++ ds) (vs ++ dvs) Q E hr I.env0 (hb s us I.kIn hl) r2 h) fun r s' hq => ?_)
  cases r with
  | error e => exact hx pins σ H s e s' I hq
  | ok fl =>
    cases fl with
    | ret u => exact I.after hq
    | next => exact False.elim hq
    | brk => exact False.elim hq
    | cont => exact False.elim hq

theorem pe_call (F : FnOk X.prog X.w X.K X.mg X.base CX k f fd ps sp) (hr : Room k X.A) (hg : Gl X x) (hm : X.mg x = some (.ref f)) (hk : PySem.W.keepIn X.K (.ref f) = true) (hb : Binds X.K fd ps ds) (hd : Vals dvs ds) (hx : Passes CX X E)
    (ha : PA X (e :: es) t) (hdb : (x == ("__debug__" : Str)) = false := by decide) (he : starEach (e :: es) X.env = (false, eval e X.env) :: starEach es X.env := by rfl) (hpl : (backTo pos (starEach es X.env)).any (·.1) = false := by rfl) :
    PE X (.Call (.Name x p) (e :: es) [] pos) (tCall sp dvs E t) := by
  intro pins s σ H Q I h
  refine wpAny_Call_Name_kw (ld_glob I hg hm ?_ hdb)
  refine PySem.W.callWith_K (h₀ := X.base) I.ok.mod.kin hk (thn (ha pos pins s σ H _ I h) fun us s1 ⟨vs, H1, I1, r, q⟩ => ⟨I1.kIn, ?_⟩) he hpl
  exact run_fn F hr hb hd hx I1 r q
theorem pe_call0 (F : FnOk X.prog X.w X.K X.mg X.base CX k f fd ps sp) (hr : Room k X.A) (hg : Gl X x) (hm : X.mg x = some (.ref f)) (hk : PySem.W.keepIn X.K (.ref f) = true) (hb : Binds X.K fd ps ds) (hd : Vals dvs ds) (hx : Passes CX X E)
    (hdb : (x == ("__debug__" : Str)) = false := by decide) : PE X (.Call (.Name x p) [] [] pos) (tCall sp dvs E tNil) := by
  intro pins s σ H Q I h
  refine wpAny_Call_Name_kw (ld_glob I hg hm ?_ hdb)
  exact PySem.W.callWith_K0 I.kIn hk (run_fn (us := []) F hr hb hd hx I .nil h)

/-- o.m(e, ..) -/
theorem pe_meth {pl : Sem Bool} (he : PE X o ta) (c : Cls X.K C) (hm : Meth X.K C m f) (F : FnOk X.prog X.w X.K X.mg X.base CX k f fd ps sp) (hr : Room k X.A) (hb : Binds X.K fd ps ds) (hd : Vals dvs ds) (hx : Passes CX X E) (ha : PA X (e :: es) t)
    (hst : starEach (e :: es) X.env = (false, eval e X.env) :: starEach es X.env := by rfl) (hpl : (backTo pos (starEach es X.env)).any (·.1) = false := by rfl)
    (ht : eval (.Call (.Attribute o m apos) (e :: es) [] pos) X.env = (do
      let ov ← eval o X.env
      standAt apos.atName
      let (f, first) ← holding [ov] (getMethod ov m pl)
      callWith pos f first (backTo pos (starEach (e :: es) X.env)) (backToKw pos (keywordEach [] X.env))) := by rfl) :
    PE X (.Call (.Attribute o m apos) (e :: es) [] pos) (tMeth C m sp dvs E ta t) := by
  intro pins s σ H Q I h
  refine PySem.W.methodCall_KW (pl := pl) (thn (he pins s σ H _ I h) fun u s1 ⟨x, H1, I1, rx, a, dx, fs, ex, ea, l, q⟩ => ?_) ht
  subst ex
  obtain rfl : u = Value.ref a := rx
  refine getmeth_ok I1 ea c hm l ?_
  refine PySem.W.callWith_K (first := [.ref a]) (h₀ := X.base) I.ok.mod.kin hm.kp (thn (ha pos pins s1 σ H1 _ I1 q) fun us s2 ⟨vs, H2, I2, r, q2⟩ => ⟨I2.kIn, ?_⟩) hst hpl
  exact run_fn (us := .ref a :: us) (vs := .ref a :: vs) F hr hb hd hx I2 (.cons rfl r) q2
/-- o.m() -/
theorem pe_meth0 {pl : Sem Bool} (he : PE X o ta) (c : Cls X.K C) (hm : Meth X.K C m f) (F : FnOk X.prog X.w X.K X.mg X.base CX k f fd ps sp) (hr : Room k X.A) (hb : Binds X.K fd ps ds) (hd : Vals dvs ds) (hx : Passes CX X E)
    (ht : eval (.Call (.Attribute o m apos) [] [] pos) X.env = (do
      let ov ← eval o X.env
      standAt apos.atName
      let (f, first) ← holding [ov] (getMethod ov m pl)
      callWith pos f first (backTo pos (starEach [] X.env)) (backToKw pos (keywordEach [] X.env))) := by rfl) :
    PE X (.Call (.Attribute o m apos) [] [] pos) (tMeth C m sp dvs E ta tNil) := by
  intro pins s σ H Q I h
  refine PySem.W.methodCall_KW (pl := pl) (thn (he pins s σ H _ I h) fun u s1 ⟨x, H1, I1, rx, a, dx, fs, ex, ea, l, q⟩ => ?_) ht
  subst ex
  obtain rfl : u = Value.ref a := rx
  refine getmeth_ok I1 ea c hm l ?_
  exact PySem.W.callWith_K0 (first := [.ref a]) I1.kIn hm.kp (run_fn (us := [.ref a]) (vs := [.ref a]) F hr hb hd hx I1 (.cons rfl .nil) q)

/-- what a class must have to be made -/
structure Mk (K : PySem.W.Frag) (C f : Addr) : Prop where
  makes : PySem.W.makesIn K C = true
  init : PySem.W.findIn K (.ref C) "__init__" = some (some (.ref f))
  fn : PySem.W.isFn K (.ref f) = true
  kp : PySem.W.keepIn K (.ref C) = true

theorem run_make {pins : List (Addr × Obj)} {σ : St} {H : Hp} {s : Shared} {Q : VK} {us : List Value} {vs : List V} (M : Mk X.K C f) (F : FnOk X.prog X.w X.K X.mg X.base CX k f fd ps sp) (hr : Room (k + 1) X.A) (hb : Binds X.K fd ps ds) (hd : Vals dvs ds)
    (hx : Passes CX X E) (I : Inv X pins σ H s) (r : Vals vs us)
    (h : ∀ x dx, H x = none → H dx = none → dx ≠ x → sp (.ref x :: (vs ++ dvs)) (upd (upd H dx (.own x)) x (.ins C dx [])) (fun v H2 => v = .non ∧ Q (.ref x) H2) E) :
    wpAny (model X.prog X.w) X.A (call (.ref C) us) (EP X pins σ Q) X.xe s := by
  have hq := h (s.heap.objs.size + 1) s.heap.objs.size (I.hok.fresh (Nat.le_succ _)) (I.hok.fresh (Nat.le_refl _)) (Nat.ne_of_lt (Nat.lt_succ_self _))
  have I2 := Inv.made (C := C) I
  have r2 : Vals (V.ref (s.heap.objs.size + 1) :: (vs ++ dvs)) (Value.ref (s.heap.objs.size + 1) :: (us ++ ds)) := .cons rfl (r.append hd)
  have hl : (Value.ref (s.heap.objs.size + 1) :: us ++ ds).length = ps.length := by
    have e := r2.length
    rw [F.len _ _ _ _ hq] at e
    exact e.symm
  refine wpAny_call (make_map (f := f) I.kIn M.makes M.init (beq_iff_eq.mp M.fn) (codeAny_mono (F.run _ X.stack _ _ ⟨Value.ref (s.heap.objs.size + 1) :: us, []⟩ (Value.ref (s.heap.objs.size + 1) :: (us ++ ds)) _ _ E (hr.make C us [])
    (I2.env0.make C us []) (hb _ (Value.ref (s.heap.objs.size + 1) :: us) I2.kIn hl) r2 hq) fun r s' hq' => ?_))
  cases r with
  | error e => exact hx pins σ _ _ e s' I2 hq'
  | ok fl =>
    cases fl with
    | ret u =>
      obtain ⟨v, H', I3, rv, ev, q3⟩ := I2.after hq'
      subst ev
      exact ⟨rv, ⟨V.ref (s.heap.objs.size + 1), H', I3, rfl, q3⟩⟩
    | next => exact False.elim hq'
    | brk => exact False.elim hq'
    | cont => exact False.elim hq'
theorem pe_make (M : Mk X.K C f) (F : FnOk X.prog X.w X.K X.mg X.base CX k f fd ps sp) (hr : Room (k + 1) X.A) (hg : Gl X x) (hm : X.mg x = some (.ref C)) (hb : Binds X.K fd ps ds) (hd : Vals dvs ds) (hx : Passes CX X E)
    (ha : PA X (e :: es) t) (hdb : (x == ("__debug__" : Str)) = false := by decide) (he : starEach (e :: es) X.env = (false, eval e X.env) :: starEach es X.env := by rfl) (hpl : (backTo pos (starEach es X.env)).any (·.1) = false := by rfl) :
    PE X (.Call (.Name x p) (e :: es) [] pos) (tMake C sp dvs E t) := by
  intro pins s σ H Q I h
  refine wpAny_Call_Name_kw (ld_glob I hg hm ?_ hdb)
  refine PySem.W.callWith_K (h₀ := X.base) I.ok.mod.kin M.kp (thn (ha pos pins s σ H _ I h) fun us s1 ⟨vs, H1, I1, r, q⟩ => ⟨I1.kIn, ?_⟩) he hpl
  exact run_make M F hr hb hd hx I1 r q
theorem pe_make0 (M : Mk X.K C f) (F : FnOk X.prog X.w X.K X.mg X.base CX k f fd ps sp) (hr : Room (k + 1) X.A) (hg : Gl X x) (hm : X.mg x = some (.ref C)) (hb : Binds X.K fd ps ds) (hd : Vals dvs ds) (hx : Passes CX X E)
    (hdb : (x == ("__debug__" : Str)) = false := by decide) : PE X (.Call (.Name x p) [] [] pos) (tMake C sp dvs E tNil) := by
  intro pins s σ H Q I h
  refine wpAny_Call_Name_kw (ld_glob I hg hm ?_ hdb)
  exact PySem.W.callWith_K0 I.kIn M.kp (run_make (us := []) M F hr hb hd hx I .nil h)
end

/-! ### keywords -/
section
variable {X : Cx} {CX : CXT} {k : Nat} {f C : Addr} {fd : FuncData} {ps ks : List Str} {sp : Sp} {E : XK} {x m : Str} {p pos apos kpos : Pos} {e o : Expr} {es : List Expr} {kws : List Keyword} {te ta : TE} {t tk : TA} {nm : Option Str}
/-- how a call with keywords binds: g puts the positional values us and the keywords' values ws (names ks) in the parameters' order, defaults among them -/
structure KBinds (K : PySem.W.Frag) (fd : FuncData) (ps ks : List Str) (g : List Value → List Value → List Value) (gV : List V → List V → List V) : Prop where
  to : ∀ (s : Shared) (us ws : List Value), K.In s.heap → (g us ws).length = ps.length → BindsTo s fd ⟨us, ks.zip ws⟩ (ps.zip (g us ws))
  rel : ∀ {vs : List V} {us : List Value} {zs : List V} {ws : List Value}, Vals vs us → Vals zs ws → Vals (gV vs zs) (g us ws)
variable {g : List Value → List Value → List Value} {gV : List V → List V → List V}
end

/-! ### a def's body keeps its promise -/
/-- names: the parameters first -/
structure FnScope (N P : List Str) (sc : Scope) : Prop where
  kind : sc.kind = .function
  co : sc.isCoroutine = false
  gen : sc.isGenerator = false
  nd : N.Nodup
  pre : N.take P.length = P
  par : ∀ x ∈ P, sc.names.lookup x = some .local ∨ sc.names.lookup x = some .cell
  nofree : ∀ y ∈ sc.names, y.2 ≠ .free

theorem bindL_out {kindOf : Str → Option NameKind} {x : Str} : ∀ {binds : List (Str × Value)} {m : Str → Option Value}, (∀ v, (x, v) ∉ binds) → bindL kindOf binds m x = m x
  | [], _, _ => rfl
  | (n, v) :: r, m, h => by
    unfold bindL
    rw [bindL_out fun w hw => h w (List.mem_cons_of_mem _ hw)]
    split
    · have : x ≠ n := by rintro rfl; exact h v List.mem_cons_self
      simp [this]
    · rfl
theorem bindC_out {kindOf : Str → Option NameKind} {x : Str} : ∀ {binds : List (Str × Value)} {m : Str → Option Value}, (∀ v, (x, v) ∉ binds) → bindC kindOf binds m x = m x
  | [], _, _ => rfl
  | (n, v) :: r, m, h => by
    unfold bindC
    rw [bindC_out fun w hw => h w (List.mem_cons_of_mem _ hw)]
    split
    · rfl
    · have : x ≠ n := by rintro rfl; exact h v List.mem_cons_self
      simp [this]
theorem bindL_get {kindOf : Str → Option NameKind} {x : Str} {v : Value} : ∀ {P : List Str} {vs : List Value} {i : Nat} {m : Str → Option Value}, P.Nodup → P[i]? = some x → vs[i]? = some v → kindOf x = some .local →
    bindL kindOf (P.zip vs) m x = some v
  | [], _, _, _, _, h, _, _ => by simp at h
  | _ :: _, [], _, _, _, _, h, _ => by simp at h
  | p :: P, w :: vs, 0, m, nd, h1, h2, hk => by
    simp at h1 h2; subst h1; subst h2
    show bindL kindOf ((p, w) :: P.zip vs) m p = _
    unfold bindL
    rw [bindL_out fun v hv => (List.nodup_cons.mp nd).1 (List.of_mem_zip hv).1, if_pos hk]
    simp
  | p :: P, w :: vs, i + 1, m, nd, h1, h2, hk => by
    show bindL kindOf ((p, w) :: P.zip vs) m x = _
    unfold bindL
    exact bindL_get (i := i) (List.nodup_cons.mp nd).2 (by simpa using h1) (by simpa using h2) hk
theorem bindC_get {kindOf : Str → Option NameKind} {x : Str} {v : Value} : ∀ {P : List Str} {vs : List Value} {i : Nat} {m : Str → Option Value}, P.Nodup → P[i]? = some x → vs[i]? = some v → kindOf x ≠ some .local →
    bindC kindOf (P.zip vs) m x = some v
  | [], _, _, _, _, h, _, _ => by simp at h
  | _ :: _, [], _, _, _, _, h, _ => by simp at h
  | p :: P, w :: vs, 0, m, nd, h1, h2, hk => by
    simp at h1 h2; subst h1; subst h2
    show bindC kindOf ((p, w) :: P.zip vs) m p = _
    unfold bindC
    rw [bindC_out fun v hv => (List.nodup_cons.mp nd).1 (List.of_mem_zip hv).1, if_neg hk]
    simp
  | p :: P, w :: vs, i + 1, m, nd, h1, h2, hk => by
    show bindC kindOf ((p, w) :: P.zip vs) m x = _
    unfold bindC
    exact bindC_get (i := i) (List.nodup_cons.mp nd).2 (by simpa using h1) (by simpa using h2) hk

/-- the names' values at the entry -/
def start (N : List Str) (vs : List V) : St := vs.map some ++ List.replicate (N.length - vs.length) none

/-- the context of a def's body, at its entry; an exception leaves the frame, then lies as CX says -/
def cxOf (CX : CXT) (P : Program) (w : World) (K : PySem.W.Frag) (mg : Str → Option Value) (base : Heap) (N : List Str) (qual : Str) (scope : Scope) (f : Addr) (cd : Value) (A : Around) (outer : List Env) (s : Shared) (H : Hp) (E : XK) : Cx where
  prog := P
  w := w
  K := K
  mg := mg
  base := base
  A := A.deeper (envOfC qual scope s.heap.objs.size f cd)
  N := N
  s_0 := s
  H_0 := H
  env := envOfC qual scope s.heap.objs.size f cd
  outer := outer
  stack := envOfC qual scope s.heap.objs.size f cd :: outer
  ex := []
  calm := true
  fn := fun _ => true
  pn := []
  xe := fun e s' => wpAny (model P w) (A.deeper (envOfC qual scope s.heap.objs.size f cd)) (leaving (envOfC qual scope s.heap.objs.size f cd) e) (fun _ s'' => CX outer H s E e s'') (fun e' s'' => CX outer H s E e' s'') s'

theorem cell_has {sc : Scope} {n : Nat} {x : Str} (h : sc.names.lookup x = some .cell) : ∃ c, (cellsFrom n sc.names []).lookup x = some c := by
  have q := PySem.W.cellsFrom_some sc.names n [] (.inl h)
  exact Option.isSome_iff_exists.mp q

theorem inv_start {CX : CXT} {P : Program} {w : World} {K : PySem.W.Frag} {mg : Str → Option Value} {base : Heap} {N ps : List Str} {qual : Str} {scope : Scope} {f : Addr} {cd : Value} {A : Around} {outer : List Env} {s s1 : Shared} {H : Hp} {E : XK} {us : List Value} {vs : List V}
    (S : FnScope N ps scope) (hd : A.handled = none) (e0 : Env0 P w K mg base A outer s H) (hl : vs.length = ps.length) (r : Vals vs us)
    (x : InCallC s s.heap.objs.size (bindL (envOfC qual scope s.heap.objs.size f cd).kindOf (ps.zip us) fun _ => none) (cellsFrom (s.heap.objs.size + 1) scope.names []) (bindC (envOfC qual scope s.heap.objs.size f cd).kindOf (ps.zip us) fun _ => none) s1) :
    Inv (cxOf CX P w K mg base N qual scope f cd A outer s H E) [] (start N vs) H s1 := by
  have hpl : ps.length ≤ N.length := by have := congrArg List.length S.pre; rw [List.length_take] at this; omega
  obtain ⟨h1, tk, rfl, hk⟩ := x.done
  have noA : ∀ b : Addr, b ∉ (cxOf CX P w K mg base N qual scope f cd A outer s H E).ex := fun b z => absurd (show b ∈ ([] : List Addr) from z) (by simp)
  refine ⟨⟨e0.mod, S.kind, rfl, rfl, Nat.le_refl _, fun y z c h1 h2 => ?_, fun y hy => ?_, fun y c _ h => ?_, fun _ => hd, Around.frames_deeper e0.frames, .inr ⟨rfl, rfl⟩, fun b z => absurd z (noA b), e0.bs, e0.bsz, fun b _ _ => noA b, fun b z => absurd z (noA b), e0.funs, e0.frf⟩,
    rfl, e0.bare, Un.kept hk, ⟨_, x.toInCall.ns, fun i y v h1 h2 h3 => ?_⟩, fun y c h => ⟨_, x.cell y c h⟩, e0.hok.fresh (Nat.le_refl _), fun y c h => ?_, fun p hp => absurd (show p ∈ ([] : List (Addr × Obj)) from hp) (by simp), e0.hok.kept hk, ?_⟩
  · exact name_of_addr x.apart (PySem.mem_of_lookup h1) (PySem.mem_of_lookup h2)
  · have hy : scope.names.lookup y = some .cell ∨ scope.names.lookup y = some .free := hy
    rcases hy with hy | hy
    · exact cell_has hy
    · exact absurd rfl (S.nofree _ (PySem.mem_of_lookup hy))
  · exact Nat.le_of_lt (x.above y c (PySem.mem_of_lookup h))
  · have hi : i < vs.length := by
      unfold start at h2
      by_cases hi : i < vs.length
      · exact hi
      · rw [List.getElem?_append_right (by simpa using hi)] at h2
        rw [List.getElem?_replicate] at h2
        split at h2 <;> cases h2
    have ha : vs[i]? = some v := by
      unfold start at h2
      rw [List.getElem?_append_left (by simpa using hi), List.getElem?_map] at h2
      cases e : vs[i]? with
      | none => rw [e] at h2; cases h2
      | some a => rw [e] at h2; cases h2; rfl
    obtain ⟨u, hu, rv⟩ := r.get ha
    have hp : ps[i]? = some y := by
      rw [← S.pre, List.getElem?_take_of_lt (by omega)]; exact h1
    have ndP : ps.Nodup := by rw [← S.pre]; exact S.nd.sublist (List.take_sublist _ _)
    refine ⟨u, rv, ?_⟩
    rcases S.par y (List.mem_of_getElem? hp) with k | k
    · exact .inl ⟨k, bindL_get ndP hp hu k⟩
    · obtain ⟨c, e⟩ := cell_has (n := s.heap.objs.size + 1) k
      refine .inr ⟨.inl k, c, e, ?_⟩
      have q := x.cell y c e
      rw [bindC_get ndP hp hu (by show scope.names.lookup y ≠ _; rw [k]; decide)] at q
      exact q
  · exact e0.hok.fresh (Nat.le_of_lt (x.above y c (PySem.mem_of_lookup h)))
  · unfold start
    show _ = N.length
    rw [List.length_append, List.length_map, List.length_replicate]
    omega

/-- THE RULE: a def (or a method) of the text, by its body. The body's reading t is chosen for each entry; it is run at the parameters' values -/
theorem fn_of {CX : CXT} {P : Program} {w : World} {K : PySem.W.Frag} {mg : Str → Option Value} {base : Heap} {k : Nat} {f : Addr} {name qual : Str} {params : Arguments} {body : List Stmt} {scope : Scope} {dV kV doc pm cdv ct oc : Value} {an od : Option Addr}
    {osl : Array (Option Value)} {N ps : List Str} {sp : Sp} (lk : K.lookup f = some ⟨oc, od, .func (PySem.W.fnOf name qual params body scope dV kV doc pm an cdv ct), osl⟩) (hcd : PySem.W.codeIn K cdv qual = true) (S : FnScope N ps scope)
    (len : ∀ vs H Q E, sp vs H Q E → vs.length = ps.length)
    (hbody : ∀ (A : Around) (outer : List Env) (s : Shared) (H : Hp) (vs : List V) (Q : VK) (E : XK), Room k (A.deeper (envOfC qual scope s.heap.objs.size f cdv)) → sp vs H Q E →
      ∃ t, PSs (cxOf CX P w K mg base N qual scope f cdv A outer s H E) body t ∧ t { nx := fun _ H' => Q .non H', rt := Q } (start N vs) H) :
    FnOk P w K mg base CX (k + 1) f (PySem.W.fnOf name qual params body scope dV kV doc pm an cdv ct) ps sp := by
  refine ⟨len, fun A outer s H args us vs Q E hr e0 hb r hsp => ?_⟩
  have hl := len _ _ _ _ hsp
  have KX : K.In s.heap := e0.mod.kin.keeps fun b o e => (e0.bs b o e).1
  have lim : s.heap.NoLimit := e0.mod.nolimit.keeps fun b o e => (e0.bs b o e).1
  have hkind : ∀ y ∈ ps.zip us, scope.names.lookup y.1 = some .local ∨ (scope.names.lookup y.1 = some .cell ∧ ((cellsFrom (s.heap.objs.size + 1) scope.names []).lookup y.1).isSome = true) := fun ⟨n, v⟩ hy => by
    rcases S.par n (List.of_mem_zip hy).1 with q | q
    · exact .inl q
    · exact .inr ⟨q, PySem.W.cellsFrom_some _ _ _ (.inl q)⟩
  refine codeAny_call_function hr.depth (KX _ _ lk) rfl S.co S.gen rfl (PySem.W.codeRec_of KX hcd) (hb _ _ _ _ ?_)
  refine wpAny_newFunctionEnv_cells S.kind hkind fun env he s1 x => ?_
  subst he
  refine ⟨lim.keeps x.toInCall.keep, codeAny_func ?_⟩
  obtain ⟨t, ht, hq⟩ := hbody A outer s H vs Q E (hr.deeper _) hsp
  have I : Inv (cxOf CX P w K mg base N qual scope f cdv A outer s H E) [] (start N vs) H s1 := inv_start S hr.hd e0 hl r x
  refine wpAny_mono (ht [] s1 (start N vs) H _ I hq) (fun fl s' hs => ?_) fun e s' hs => hs
  have fin : ∀ {σ' : St} {H' : Hp} {v : V} {u : Value}, Inv (cxOf CX P w K mg base N qual scope f cdv A outer s H E) [] σ' H' s' → RelV v u → Q v H' → CE outer P w H s Q u s' :=
    fun {σ' H' v u} J rv q => ⟨v, H', J.os, J.bare, J.base, J.hok, rv, q⟩
  cases fl with
  | ret u =>
    obtain ⟨v, σ', H', J, rv, q⟩ := hs
    exact fin J rv q
  | next =>
    obtain ⟨σ', H', J, q⟩ := hs
    exact fin (v := V.non) (u := Value.none) J rfl q
  | brk =>
    obtain ⟨_, _, _, q⟩ := hs
    exact False.elim q
  | cont =>
    obtain ⟨_, _, _, q⟩ := hs
    exact False.elim q
end L2

namespace L2
open PySem PySem.Spec PyProof.Rows
section
variable {X : Cx} {x : Str} {p pos : Pos} {e : Expr} {es : List Expr} {t : TA} {id T : String} {r : List V → Hp → VK → Prop}

def tCB (r : List V → Hp → VK → Prop) (t : TA) : TE := fun σ H Q => t σ H fun vs H1 => r vs H1 Q
/-- f(e, ..), f a built-in function -/
theorem pe_callB (hc : CallR X (.builtin id) r) (hg : Gl X x) (hm : X.mg x = none) (hv : bootBuiltins x = some (.builtin id)) (ha : PA X (e :: es) t) (hn : x ≠ "__name__" := by decide) (hdb : (x == ("__debug__" : Str)) = false := by decide)
    (he : starEach (e :: es) X.env = (false, eval e X.env) :: starEach es X.env := by rfl) (hpl : (backTo pos (starEach es X.env)).any (·.1) = false := by rfl) : PE X (.Call (.Name x p) (e :: es) [] pos) (tCB r t) := by
  intro pins s σ H Q I h
  refine wpAny_Call_Name_kw (ld_blt I hg hm hv ?_ hn hdb)
  exact PyProof.Rows.callWith_builtin1 (thn (ha pos pins s σ H _ I h) fun us s1 ⟨vs, H1, I1, r1, q1⟩ => hc pins s1 σ H1 vs us Q I1 r1 q1) he hpl
/-- T(e, ..), T a built-in type -/
theorem pe_callTy (hc : CallR X (.type T) r) (hg : Gl X x) (hm : X.mg x = none) (hv : bootBuiltins x = some (.type T)) (ha : PA X (e :: es) t) (hn : x ≠ "__name__" := by decide) (hdb : (x == ("__debug__" : Str)) = false := by decide)
    (he : starEach (e :: es) X.env = (false, eval e X.env) :: starEach es X.env := by rfl) (hpl : (backTo pos (starEach es X.env)).any (·.1) = false := by rfl) : PE X (.Call (.Name x p) (e :: es) [] pos) (tCB r t) := by
  intro pins s σ H Q I h
  refine wpAny_Call_Name_kw (ld_blt I hg hm hv ?_ hn hdb)
  exact PyProof.Rows.callWith_type1 (thn (ha pos pins s σ H _ I h) fun us s1 ⟨vs, H1, I1, r1, q1⟩ => hc pins s1 σ H1 vs us Q I1 r1 q1) he hpl
end
end L2

namespace HT
open PySem PyProof.Rows

section
open PySem.SeqAt
open PySem.AutoSeq1 (wpAny_loadPart')
open PySem.MeetsSeq PySem.MeetsSeq2 PySem.MeetsSeq3

end

section
variable {prog : Program} {w : World} {A : Around} {E : Value → Shared → Prop} {s : Shared}

/-- t + u, t not empty -/
theorem cat_tup {t b : Addr} {vs ws : List Value} {Q : Value → Shared → Prop} (ht : IsTup s.heap t vs.toArray) (hb : IsTup s.heap b ws.toArray) (hv : vs ≠ [])
    (h1 : ws = [] → Q (.ref t) s) (h2 : ws ≠ [] → Q (.ref s.heap.objs.size) { s with heap := s.heap.push { cls := .type "tuple", data := .seq (vs ++ ws).toArray } })
    (hsz : vs.length + ws.length ≤ sizeLine) : wpAny (model prog w) A (binaryOp .Add (.ref t) (.ref b)) Q E s := by
  obtain ⟨⟨cls, dd, data, sl⟩, ho, hc, n, hd⟩ := id ht
  obtain ⟨⟨cls2, dd2, data2, sl2⟩, ho2, hc2, n2, hd2⟩ := id hb
  simp only at hc hd hc2 hd2
  subst hc hd hc2 hd2
  have e : vs.toArray ++ ws.toArray = (vs ++ ws).toArray := by simp
  by_cases hw : ws = []
  · exact concat_meets ⟨_, ho, rfl⟩ ⟨_, ho2, rfl⟩ noFill_tuple_add seq_tuple_add PySem.F.slot_tuple_add PySem.F.entry_tuple_add (PySem.F.args_tuple_add_2 _ _)
      (tuple_addW1 t b vs.toArray ws.toArray n n2 dd dd2 sl sl2 (by simpa using hv) (by simp [hw])) ⟨ho, ho2, h1 hw⟩
  · refine concat_meets ⟨_, ho, rfl⟩ ⟨_, ho2, rfl⟩ noFill_tuple_add seq_tuple_add PySem.F.slot_tuple_add PySem.F.entry_tuple_add (PySem.F.args_tuple_add_2 _ _)
      (tuple_addW2 t b vs.toArray ws.toArray n n2 dd dd2 sl sl2 (by simpa using hv) (by simpa using hw) (by rw [List.size_toArray, List.size_toArray]; exact hsz)) ⟨ho, ho2, ?_⟩
    rw [e]
    exact h2 hw

/-! ### t[a:b], not the whole -/
/-- a slice's bound as a place among n (d where it is left out) -/
def sIx (n d : Nat) : Option Int → Nat
  | none => d
  | some v => if v < 0 then (v + (n : Int)).toNat else min v.toNat n
theorem sIx_none (n d : Nat) : sIx n d none = d := rfl
theorem sIx_nat (n d k : Nat) : sIx n d (some (k : Int)) = min k n := by
  show (if (k : Int) < 0 then ((k : Int) + (n : Int)).toNat else min (k : Int).toNat n) = min k n
  rw [if_neg (by omega), Int.toNat_natCast]
end
end HT

namespace L2
open PySem PySem.Spec PyProof.Rows

/-! ### the parts of a slice -/
abbrev TO := St → Hp → (Option Int → Hp → Prop) → Prop
/-- a slice's part (left out, or an int) -/
def PO (X : Cx) (e : Option Expr) (t : TO) : Prop :=
  ∀ (pins : List (Addr × Obj)) (s : Shared) (σ : St) (H : Hp) (Q : Option Int → Hp → Prop), Inv X pins σ H s → t σ H Q →
    wpAny (model X.prog X.w) X.A (evalPart e X.env) (fun u s' => ∃ o H', Inv X pins σ H' s' ∧ IsPart u o ∧ Q o H') X.xe s
def tNoPart : TO := fun _ H Q => Q none H
def tPart (t : TE) : TO := fun σ H Q => t σ H fun x H1 => ∃ i, x = .int i ∧ Q (some i) H1

section
variable {X : Cx} {e : Expr} {te : TE} {lo hi : Option Expr} {tl th : TO} {pos p2 : Pos}

theorem po_none : PO X none tNoPart := by
  intro pins s σ H Q I h
  rw [evalPart_none]
  exact wpAny_pure ⟨none, H, I, .none, h⟩
theorem po_some (h : PE X e te) : PO X (some e) (tPart te) := by
  intro pins s σ H Q I hw
  rw [evalPart_some]
  refine thn (h pins s σ H _ I hw) fun u s1 ⟨x, H1, I1, r1, q1⟩ => ?_
  obtain ⟨i, rfl, q⟩ := q1
  obtain ⟨t, rfl⟩ := r1
  exact ⟨some i, H1, I1, .int i t, q⟩

/-- what a slice of a value is, by values: the slice object stands at sl -/
def SlR (X : Cx) (r : V → Option Int → Option Int → Hp → VK → Prop) : Prop :=
  ∀ (pins : List (Addr × Obj)) (s : Shared) (σ : St) (H : Hp) (x : V) (v vl vu : Value) (lo hi : Option Int) (sl : Addr) (Q : VK), Inv X pins σ H s → RelV x v → s.heap.IsSliceOf sl vl vu .none → IsPart vl lo → IsPart vu hi → r x lo hi H Q →
    ∃ T id, typeLookup (.type T) "__getitem__" = pure (some (.builtin id)) ∧ s.TypeIs v T ∧ wpAny (model X.prog X.w) X.A (getItem v (.ref sl)) (EP X pins σ Q) X.xe s
def tSl (r : V → Option Int → Option Int → Hp → VK → Prop) (te : TE) (tl th : TO) : TE := fun σ H Q => te σ H fun x H1 => tl σ H1 fun l H2 => th σ H2 fun u H3 => r x l u H3 Q
/-- a[lo:hi], any a -/
theorem pe_slice {r : V → Option Int → Option Int → Hp → VK → Prop} (hr : SlR X r) (he : PE X e te) (hl : PO X lo tl) (hu : PO X hi th) : PE X (.Subscript e (.Slice lo hi none p2) pos) (tSl r te tl th) := by
  intro pins s σ H Q I h
  refine Subscript_ (thn (he pins s σ H _ I h) fun v s1 ⟨x, H1, I1, r1, q1⟩ => ?_)
  refine wpAny_Slice (thn (hl pins s1 σ H1 _ I1 q1) fun vl s2 ⟨l, H2, I2, pl, q2⟩ => thn (hu pins s2 σ H2 _ I2 q2) fun vu s3 ⟨u, H3, I3, pu, q3⟩ => ?_)
  rw [evalPart_none]
  refine wpAny_pure ?_
  have I4 : Inv X pins σ H3 { s3 with heap := s3.heap.push { cls := .type "slice", data := .fields #[vl, vu, .none] } } := I3.kept (t' := s3.toks) fun b ob q => Heap.get?_push_of_some _ q
  obtain ⟨T, id, hT, ht, hg⟩ := hr pins { s3 with heap := s3.heap.push { cls := .type "slice", data := .fields #[vl, vu, .none] } } σ H3 x v vl vu l u s3.heap.objs.size Q I4 r1 (Heap.IsSliceOf.new ..) pl pu q3
  show wpAny (model X.prog X.w) X.A (subscriptTail e (.Slice lo hi none p2) v (.ref s3.heap.objs.size)) (EP X pins σ Q) X.xe { s3 with heap := s3.heap.push { cls := .type "slice", data := .fields #[vl, vu, .none] } }
  exact tail_any (ops := [.ref s3.heap.objs.size, v]) ht hT hg (by with_unfolding_all rfl)

/-- the items of xs[lo:hi] -/
def cutV (xs : List V) (lo hi : Option Int) : List V := (xs.drop (HT.sIx xs.length 0 lo)).take (HT.sIx xs.length xs.length hi - HT.sIx xs.length 0 lo)
theorem cutV_length (xs : List V) (lo hi : Option Int) : (cutV xs lo hi).length ≤ xs.length := by
  unfold cutV
  rw [List.length_take, List.length_drop]
  omega
/-! ### t < u, t + u -/
theorem Vals.nil_iff {xs : List V} {us : List Value} (r : Vals xs us) : us = [] ↔ xs = [] := by
  cases r with
  | nil => simp
  | cons _ _ => simp
end
end L2

namespace L2
open PySem PySem.Spec PyProof.Rows

/-! ### places -/
/-- the place that an index of any sign means -/
def ixN (n : Nat) (i : Int) : Option Nat := if 0 ≤ i then (if i < n then some i.toNat else none) else if -(n : Int) ≤ i then some (i + n).toNat else none
def atI {α : Type} (xs : List α) (i : Int) : Option α := (ixN xs.length i).bind fun j => xs[j]?
theorem ixN_seq {n : Nat} {i : Int} {j : Nat} (h : ixN n i = some j) : seqIndex? i n = some j ∧ j < n ∧ -(n : Int) ≤ i ∧ i < n := by
  unfold ixN at h
  by_cases h0 : 0 ≤ i
  · rw [if_pos h0] at h
    by_cases h1 : i < n
    · rw [if_pos h1] at h
      have e : i.toNat = j := Option.some.inj h
      exact ⟨by rw [seqIndex_of h0 h1, e], by omega, by omega, h1⟩
    · rw [if_neg h1] at h; cases h
  · rw [if_neg h0] at h
    by_cases h1 : -(n : Int) ≤ i
    · rw [if_pos h1] at h
      have e : (i + n).toNat = j := Option.some.inj h
      exact ⟨by rw [seqIndex_neg (by omega) h1, e], by omega, h1, by omega⟩
    · rw [if_neg h1] at h; cases h
theorem atI_get {α : Type} {xs : List α} {i : Int} {v : α} (h : atI xs i = some v) : ∃ j, seqIndex? i xs.length = some j ∧ xs[j]? = some v ∧ j < xs.length ∧ -(xs.length : Int) ≤ i ∧ i < xs.length := by
  unfold atI at h
  cases e : ixN xs.length i with
  | none => rw [e] at h; cases h
  | some j =>
    rw [e] at h
    obtain ⟨h1, h2, h3, h4⟩ := ixN_seq e
    exact ⟨j, h1, h, h2, h3, h4⟩
theorem atI_nat {α : Type} {xs : List α} {j : Nat} {v : α} (h : xs[j]? = some v) : atI xs (j : Int) = some v := by
  have hj : j < xs.length := (List.getElem?_eq_some_iff.mp h).1
  have e : ixN xs.length (j : Int) = some j := by
    unfold ixN
    rw [if_pos (by omega), if_pos (by omega)]; simp
  unfold atI; rw [e]; exact h
theorem atI_last {α : Type} (xs : List α) (v : α) : atI (xs ++ [v]) (-1) = some v := by
  have hl : (xs ++ [v]).length = xs.length + 1 := by simp
  have e : ixN (xs ++ [v]).length (-1) = some xs.length := by
    unfold ixN
    rw [hl, if_neg (by decide), if_pos (by omega)]
    congr 1
    omega
  unfold atI
  rw [e]
  show (xs ++ [v])[xs.length]? = some v
  simp

/-! ### what may be subscripted -/
/-- what stands as an index of a plain subscript -/
def PlainIx (b : Expr) : Prop := ∀ o i, subscripted b false o i = operate [o, i] (getItem o i)
/-- a subscript by values -/
def IxR (X : Cx) (r : R2) : Prop :=
  ∀ (value slice : Expr) (pins : List (Addr × Obj)) (s : Shared) (σ : St) (H : Hp) (x y : V) (v u : Value) (Q : VK), Inv X pins σ H s → RelV x v → RelV y u → r x y H Q →
    subscripted slice false v u = operate [v, u] (getItem v u) → wpAny (model X.prog X.w) X.A (subscriptTail value slice v u) (EP X pins σ Q) X.xe s
/-- a call of a builtin's method by values: the receiver, the arguments -/
def MtR (X : Cx) (id : String) (r : V → List V → Hp → VK → Prop) : Prop :=
  ∀ (pins : List (Addr × Obj)) (s : Shared) (σ : St) (H : Hp) (x : V) (xs : List V) (v : Value) (us : List Value) (Q : VK), Inv X pins σ H s → RelV x v → Vals xs us → r x xs H Q →
    wpAny (model X.prog X.w) X.A (call (.builtin id) (v :: us)) (EP X pins σ Q) X.xe s
section
variable {X : Cx} {a b : Expr} {ta tb : TE} {pos : Pos}
theorem IxR.or {r r' : R2} (h : IxR X r) (h' : IxR X r') : IxR X (fun x y H Q => r x y H Q ∨ r' x y H Q) := by
  intro value slice pins s σ H x y v u Q I rx ry q hs
  rcases q with q | q
  · exact h value slice pins s σ H x y v u Q I rx ry q hs
  · exact h' value slice pins s σ H x y v u Q I rx ry q hs
/-- a[b] -/
theorem pe_ix {r : R2} (hr : IxR X r) (ha : PE X a ta) (hb : PE X b tb) (hs : PlainIx b) : PE X (.Subscript a b pos) (tOp r ta tb) := by
  intro pins s σ H Q I h
  exact Subscript_ (binT ha hb I h fun v u s2 x y H2 I2 rx ry q => hr a b pins s2 σ H2 x y v u Q I2 rx ry q (hs _ _))

def rIxL (K : PySem.W.Frag) : R2 := fun x y H Q => ∃ p xs i v, x = .ref p ∧ y = .int i ∧ SqL K H p xs ∧ atI xs i = some v ∧ Q v H
def rIxT (K : PySem.W.Frag) : R2 := fun x y H Q => ∃ p xs i v, x = .ref p ∧ y = .int i ∧ SqT K H p xs ∧ atI xs i = some v ∧ Q v H
def rIxS : R2 := fun x y H Q => ∃ z i c, x = .str z ∧ y = .int i ∧ z.length ≤ sizeLine ∧ atI z.cps.toList i = some c ∧ Q (.str ⟨#[c]⟩) H
theorem ix_list : IxR X (rIxL X.K) := by
  intro value slice pins s σ H x y v u Q I rx ry h hs
  obtain ⟨p, xs, i, z, rfl, rfl, hq, he, q⟩ := h
  cases rx
  obtain ⟨t, rfl⟩ := ry
  obtain ⟨its, r, pl, hz⟩ := I.list hq
  obtain ⟨j, h1, h2, h3, h4, h5⟩ := atI_get he
  obtain ⟨w, ew, rw'⟩ := r.get h2
  have hl := r.length
  have hn := line63
  have fin : EP X pins σ Q w s := ⟨z, H, I, rw', q⟩
  by_cases h0 : 0 ≤ i
  · have hj : i.toNat = j := by
      rw [seqIndex_of h0 h5] at h1
      exact Option.some.inj h1
    exact item_listR pl.isList h0 (by omega) (by rw [hj]; simpa using ew) fin hs
  · have hj : (i + (its.toArray.size : Int)).toNat = j := by
      rw [seqIndex_neg (by omega) h4] at h1
      rw [List.size_toArray, ← hl]
      exact Option.some.inj h1
    exact subscriptTail_builtinR (x := w) pl.isList.typeIs slot_list_getitem.lookup
      (wpAny_getItem_list_neg (Q := fun r s' => r = w ∧ EP X pins σ Q r s') pl.isList (by omega) (by rw [List.size_toArray] <;> omega) (by omega) (by rw [hj]; simpa using ew) ⟨rfl, fin⟩) hs
theorem ix_tup : IxR X (rIxT X.K) := by
  intro value slice pins s σ H x y v u Q I rx ry h hs
  obtain ⟨p, xs, i, z, rfl, rfl, hq, he, q⟩ := h
  cases rx
  obtain ⟨t, rfl⟩ := ry
  obtain ⟨its, r, pl, hz⟩ := I.tuple hq
  obtain ⟨j, h1, h2, h3, h4, h5⟩ := atI_get he
  obtain ⟨w, ew, rw'⟩ := r.get h2
  have hl := r.length
  have hn := line63
  have fin : EP X pins σ Q w s := ⟨z, H, I, rw', q⟩
  exact subscriptTail_builtinR (x := w) pl.typeIs slot_tuple_getitem.lookup
    (getItem_tuple (j := j) (Q := fun r s' => r = w ∧ EP X pins σ Q r s') pl (by omega) (by omega) (by rw [List.size_toArray, ← hl]; exact h1) (by simpa using ew) ⟨rfl, fin⟩) hs
theorem ix_str : IxR X rIxS := by
  intro value slice pins s σ H x y v u Q I rx ry h hs
  obtain ⟨z, i, c, rfl, rfl, hz, he, q⟩ := h
  obtain ⟨t, rfl⟩ := rx
  obtain ⟨t', rfl⟩ := ry
  obtain ⟨j, h1, h2, h3, h4, h5⟩ := atI_get he
  have hl : z.cps.toList.length = z.length := by simp [Str.length]
  rw [hl] at h1 h4 h5
  have hn := line63
  exact tail_any (typeIs_str s z t) slot_str_getitem.lookup (getItem_str (c := c) (by
    have e1 : decide (i < -(2 ^ 63 : Int)) = false := decide_eq_false (by omega)
    have e2 : decide (i ≥ 2 ^ 63) = false := decide_eq_false (by omega)
    rw [e1, e2, Bool.or_false]) (by rw [h1]; simpa using h2) ⟨.str ⟨#[c]⟩, H, I.tok _, ⟨_, rfl⟩, q⟩) hs
/-- list, tuple or str -/
def rIx (K : PySem.W.Frag) : R2 := fun x y H Q => rIxL K x y H Q ∨ rIxT K x y H Q ∨ rIxS x y H Q
theorem ix_seq : IxR X (rIx X.K) := ix_list.or (ix_tup.or ix_str)

/-! ### xs[i] = v, any sign -/
/-! ### slices -/
theorem slice_bounds (lo hi : Option Int) (n : Nat) : (sliceBounds lo hi none n).1 = ((HT.sIx n 0 lo : Nat) : Int) ∧ (sliceBounds lo hi none n).2.1 = ((HT.sIx n n hi : Nat) : Int) ∧ (sliceBounds lo hi none n).2.2 = 1 := by
  refine ⟨?_, ?_, rfl⟩
  · cases lo with
    | none => simp [sliceBounds, HT.sIx]
    | some i =>
      simp only [sliceBounds, HT.sIx, Option.getD_none, show (1 : Int) > 0 by decide, if_true]
      by_cases h : i < 0
      · simp only [h, if_true] <;> omega
      · simp only [h, if_false] <;> omega
  · cases hi with
    | none => simp [sliceBounds, HT.sIx]
    | some i =>
      simp only [sliceBounds, HT.sIx, Option.getD_none, show (1 : Int) > 0 by decide, if_true]
      by_cases h : i < 0
      · simp only [h, if_true] <;> omega
      · simp only [h, if_false] <;> omega
theorem slicePick_cut (its : List Value) (lo hi : Option Int) : slicePick its.toArray lo hi none = ((its.drop (HT.sIx its.length 0 lo)).take (HT.sIx its.length its.length hi - HT.sIx its.length 0 lo)).toArray := by
  obtain ⟨h1, h2, h3⟩ := slice_bounds lo hi its.toArray.size
  unfold slicePick
  rw [h1, h2, h3]
  simp only [sliceRange_one, pick_run, List.size_toArray] <;> rfl
/-- xs[lo:hi] of a list: a new list -/
def rSlL (K : PySem.W.Frag) : V → Option Int → Option Int → Hp → VK → Prop := fun x lo hi H Q => ∃ a xs, x = .ref a ∧ SqL K H a xs ∧ ∀ p, H p = none → Q (.ref p) (upd H p (.lst (cutV xs lo hi)))
theorem sl_list : SlR X (rSlL X.K) := by
  intro pins s σ H x v vl vu lo hi sl Q I rx hs pl pu h
  obtain ⟨a, xs, rfl, hx, q⟩ := h
  cases rx
  obtain ⟨its, r, ht, hz⟩ := I.list hx
  have hlen := r.length
  refine ⟨"list", _, slot_list_getitem.lookup, ht.isList.typeIs, ?_⟩
  refine wpAny_getItem_list_slice ht.isList hs pl pu .none (by simp) ?_ (by rw [List.size_toArray] <;> omega)
  rw [slicePick_cut, ← hlen]
  refine ⟨.ref s.heap.objs.size, _, I.laid (t' := s.toks) (o := .lst (cutV xs lo hi)) (fun b ob q => Heap.get?_push_of_some _ q) (Nat.le_refl _) ?_, rfl, q _ (I.hok.fresh (Nat.le_refl _))⟩
  exact ⟨Nat.le_trans (cutV_length xs lo hi) hz, _, 0, (r.drop (HT.sIx xs.length 0 lo)).take (HT.sIx xs.length xs.length hi - HT.sIx xs.length 0 lo), Heap.get?_push_size _ rfl⟩

/-! ### in, not in: flat items -/
def flatV : V → Bool
  | .non => true
  | .bl _ => true
  | .int _ => true
  | .str _ => true
  | _ => false
/-- == of flat values -/
def eqV : V → V → Bool
  | .non, .non => true
  | .bl a, .bl b => a == b
  | .bl a, .int b => (if a then 1 else 0) == b
  | .int a, .bl b => a == (if b then 1 else 0)
  | .int a, .int b => a == b
  | .str a, .str b => a == b
  | _, _ => false
theorem eqAt_V {A : Around} {s : Shared} {y x : V} {u v : Value} (ry : RelV y u) (rx : RelV x v) (fy : flatV y = true) (fx : flatV x = true) : SeqAt.EqAt A s u v (eqV y x) := by
  cases y with
  | non =>
    cases ry
    cases x with
    | non => cases rx; exact SeqAt.EqAt.same _
    | bl b => cases rx; exact SeqAt.EqAt.none_bool b
    | int b => obtain ⟨t, rfl⟩ := rx; exact SeqAt.EqAt.none_int b t
    | str b => obtain ⟨t, rfl⟩ := rx; exact SeqAt.EqAt.none_str b t
    | _ => exact absurd (show false = true from fx) Bool.false_ne_true
  | bl a =>
    cases ry
    cases x with
    | non => cases rx; exact SeqAt.EqAt.bool_none a
    | bl b => cases rx; exact SeqAt.EqAt.bool_bool a b
    | int b => obtain ⟨t, rfl⟩ := rx; exact SeqAt.EqAt.bool_int a b t
    | str b => obtain ⟨t, rfl⟩ := rx; exact SeqAt.EqAt.bool_str a b t
    | _ => exact absurd (show false = true from fx) Bool.false_ne_true
  | int a =>
    obtain ⟨t', rfl⟩ := ry
    cases x with
    | non => cases rx; exact SeqAt.EqAt.int_none a t'
    | bl b => cases rx; exact SeqAt.EqAt.int_bool a t' b
    | int b => obtain ⟨t, rfl⟩ := rx; exact SeqAt.EqAt.int_int a t' b t
    | str b => obtain ⟨t, rfl⟩ := rx; exact SeqAt.EqAt.int_str a t' b t
    | _ => exact absurd (show false = true from fx) Bool.false_ne_true
  | str a =>
    obtain ⟨t', rfl⟩ := ry
    cases x with
    | non => cases rx; exact SeqAt.EqAt.str_none a t'
    | bl b => cases rx; exact SeqAt.EqAt.str_bool a t' b
    | int b => obtain ⟨t, rfl⟩ := rx; exact SeqAt.EqAt.str_int a t' b t
    | str b => obtain ⟨t, rfl⟩ := rx; exact SeqAt.EqAt.str_str a t' b t
    | _ => exact absurd (show false = true from fx) Bool.false_ne_true
  | _ => exact absurd (show false = true from fy) Bool.false_ne_true
/-- the items' answers, read off the values (a value's own answer does not lean on its token) -/
def eqU (x : V) (u : Value) : Bool := match u with
  | .none => eqV .non x
  | .bool b => eqV (.bl b) x
  | .int i _ => eqV (.int i) x
  | .str z _ => eqV (.str z) x
  | _ => false
theorem eqU_of {x y : V} {u : Value} (r : RelV y u) (f : flatV y = true) : eqU x u = eqV y x := by
  cases y with
  | non => cases r; rfl
  | bl b => cases r; rfl
  | int i => obtain ⟨t, rfl⟩ := r; rfl
  | str z => obtain ⟨t, rfl⟩ := r; rfl
  | _ => exact absurd (show false = true from f) Bool.false_ne_true
theorem any_eqU {x : V} : ∀ {xs : List V} {us : List Value}, Vals xs us → xs.all flatV = true → us.any (eqU x) = xs.any fun y => eqV y x
  | _, _, .nil, _ => rfl
  | y :: xs, u :: us, .cons r t, f => by
    rw [List.all_cons, Bool.and_eq_true] at f
    rw [List.any_cons, List.any_cons, eqU_of r f.1, any_eqU t f.2]
theorem mem_eqAt {A : Around} {s : Shared} {x : V} {v : Value} (rx : RelV x v) (fx : flatV x = true) : ∀ {xs : List V} {us : List Value}, Vals xs us → xs.all flatV = true → ∀ u ∈ us, SeqAt.EqAt A s u v (eqU x u)
  | _, _, .nil, _ => fun u hu => by cases hu
  | y :: xs, u :: us, .cons r t, f => fun u' hu => by
    rw [List.all_cons, Bool.and_eq_true] at f
    rcases List.mem_cons.mp hu with rfl | hu
    · rw [eqU_of r f.1]; exact eqAt_V r rx f.1 fx
    · exact mem_eqAt rx fx t f.2 u' hu
def inV (x : V) (xs : List V) : Bool := xs.any fun y => eqV y x
/-- x in a list or tuple of flat items -/
def rIn (K : PySem.W.Frag) (neg : Bool) : R2 := fun x y H Q => ∃ p xs, y = .ref p ∧ (SqL K H p xs ∨ SqT K H p xs) ∧ flatV x = true ∧ xs.all flatV = true ∧ Q (.bl (if neg then !inV x xs else inV x xs)) H
theorem op_in_seq : OpR X (compareOp .In) (rIn X.K false) := by
  intro pins s σ H x y v u Q I rx ry h
  obtain ⟨p, xs, rfl, hq, fx, fs, q⟩ := h
  cases ry
  rcases hq with hq | hq
  · obtain ⟨its, r, pl, hz⟩ := I.list hq
    refine SeqAt.in_listAt (eqU x) pl.isList (fun w hw => mem_eqAt rx fx r fs w (by simpa using hw)) ⟨.bl _, H, I, rfl, ?_⟩
    rw [show its.toArray.any (eqU x) = its.any (eqU x) by simp, any_eqU r fs]
    exact q
  · obtain ⟨its, r, pl, hz⟩ := I.tuple hq
    refine SeqAt.in_tupleAt (eqU x) pl (fun w hw => mem_eqAt rx fx r fs w (by simpa using hw)) ⟨.bl _, H, I, rfl, ?_⟩
    rw [show its.toArray.any (eqU x) = its.any (eqU x) by simp, any_eqU r fs]
    exact q
theorem op_notIn_seq : OpR X (compareOp .NotIn) (rIn X.K true) := by
  intro pins s σ H x y v u Q I rx ry h
  obtain ⟨p, xs, rfl, hq, fx, fs, q⟩ := h
  cases ry
  rcases hq with hq | hq
  · obtain ⟨its, r, pl, hz⟩ := I.list hq
    refine SeqAt.notIn_listAt (eqU x) pl.isList (fun w hw => mem_eqAt rx fx r fs w (by simpa using hw)) ⟨.bl _, H, I, rfl, ?_⟩
    rw [show its.toArray.any (eqU x) = its.any (eqU x) by simp, any_eqU r fs]
    exact q
  · obtain ⟨its, r, pl, hz⟩ := I.tuple hq
    refine SeqAt.notIn_tupleAt (eqU x) pl (fun w hw => mem_eqAt rx fx r fs w (by simpa using hw)) ⟨.bl _, H, I, rfl, ?_⟩
    rw [show its.toArray.any (eqU x) = its.any (eqU x) by simp, any_eqU r fs]
    exact q
/-! ### len, list(x), tuple(x) of any list or tuple that is read -/
theorem call_len_seq : CallR X (.builtin "len") (fun xs H Q => ∃ p ys, xs = [.ref p] ∧ (SqL X.K H p ys ∨ SqT X.K H p ys) ∧ Q (.int ys.length) H) := by
  intro pins s σ H xs us Q I r h
  obtain ⟨p, ys, rfl, hq, q⟩ := h
  obtain ⟨u, rfl, rx⟩ := vals1 r
  cases rx
  have hn := line63
  rcases hq with hq | hq
  · obtain ⟨its, r', pl, hz⟩ := I.list hq
    have hlen := r'.length
    exact Calls.call_len_list pl.isList (by simp only [List.size_toArray] <;> omega) ⟨.int ys.length, H, I.tok _, ⟨s.toks + 1, by rw [List.size_toArray, hlen]⟩, q⟩
  · obtain ⟨its, r', pl, hz⟩ := I.tuple hq
    have hlen := r'.length
    exact len_tuple pl (by simp only [List.size_toArray] <;> omega) ⟨.int ys.length, H, I.tok _, ⟨s.toks + 1, by rw [List.size_toArray, hlen]⟩, q⟩
theorem call_len_str : CallR X (.builtin "len") (fun xs H Q => ∃ z, xs = [.str z] ∧ z.length ≤ sizeLine ∧ Q (.int z.length) H) := by
  intro pins s σ H xs us Q I r h
  obtain ⟨z, rfl, hz, q⟩ := h
  obtain ⟨u, rfl, t, rfl⟩ := vals1 r
  have hn := line63
  exact len_str (by omega) ⟨.int z.length, H, I.tok _, ⟨_, rfl⟩, q⟩
theorem call_list_of : CallR X (.type "list") (fun xs H Q => ∃ p ys, xs = [.ref p] ∧ (SqL X.K H p ys ∨ SqT X.K H p ys) ∧ ∀ l, H l = none → Q (.ref l) (upd H l (.lst ys))) := by
  intro pins s σ H xs us Q I r h
  obtain ⟨p, ys, rfl, hq, q⟩ := h
  obtain ⟨u, rfl, rx⟩ := vals1 r
  cases rx
  have fin : ∀ (its : List Value), Vals ys its → ys.length ≤ sizeLine → ∀ (h' : Heap) (c' : Nat), (∀ b o', s.heap.get? b = some o' → h'.get? b = some o') →
      h'.get? s.heap.objs.size = some { cls := .type "list", dict := none, data := .seq its.toArray c', slots := #[] } → EP X pins σ Q (.ref s.heap.objs.size) { s with heap := h' } := fun its r' hz h' c' kp e =>
    ⟨.ref s.heap.objs.size, _, I.laid (t' := s.toks) kp (Nat.le_refl _) (show ObjOk X.prog X.w _ h' _ (.lst ys) from ⟨hz, its, c', r', e⟩), rfl, q _ (I.hok.fresh (Nat.le_refl _))⟩
  rcases hq with hq | hq
  · obtain ⟨its, r', pl, hz⟩ := I.list hq
    have hlen := r'.length
    obtain ⟨o, ho, hc, n, hd⟩ := pl.isList
    exact call_list_seq p (.inl rfl) ho hc hd (fun h' c' kp e => fin its r' hz h' c' kp e) (by simp only [List.size_toArray] <;> omega)
  · obtain ⟨its, r', pl, hz⟩ := I.tuple hq
    have hlen := r'.length
    obtain ⟨o, ho, hc, n, hd⟩ := pl
    exact call_list_seq p (.inr rfl) ho hc hd (fun h' c' kp e => fin its r' hz h' c' kp e) (by simp only [List.size_toArray] <;> omega)
/-! ### the call of a builtin's method: o.m(..) -/
/-- the value is of that builtin type -/
def tyV (K : PySem.W.Frag) (T : String) (x : V) (H : Hp) : Prop := match x with
  | .str _ => T = "str"
  | .int _ => T = "int"
  | .ref p => (T = "list" ∧ ∃ xs, SqL K H p xs) ∨ (T = "tuple" ∧ ∃ o, K.lookup p = some o ∧ o.cls = .type "tuple" ∧ o.dict = none) ∨
      (T = "dict" ∧ ((∃ kvs, H p = some (.dK kvs)) ∨ ∃ kvs, H p = some (.dT kvs))) ∨ (T = "set" ∧ ∃ S n, H p = some (.set S n))
  | _ => False
theorem tyV_is {pins : List (Addr × Obj)} {σ : St} {H : Hp} {s : Shared} {T : String} {x : V} {v : Value} (I : Inv X pins σ H s) (r : RelV x v) (ty : tyV X.K T x H) :
    s.TypeIs v T ∧ ∀ a, v = .ref a → ∃ ob, s.heap.get? a = some ob ∧ ob.dict = none := by
  cases x with
  | str z =>
    obtain ⟨t, rfl⟩ := r
    cases (show T = "str" from ty)
    exact ⟨typeIs_str s z t, fun _ e => nomatch e⟩
  | int i =>
    obtain ⟨t, rfl⟩ := r
    cases (show T = "int" from ty)
    exact ⟨typeIs_int s i t, fun _ e => nomatch e⟩
  | ref p =>
    cases r
    rcases ty with ⟨rfl, xs, hq⟩ | ⟨rfl, o, hk, hc, hd⟩ | ⟨rfl, hk⟩ | ⟨rfl, S, n, hk⟩
    · obtain ⟨its, _, pl, _⟩ := I.list hq
      refine ⟨pl.isList.typeIs, fun a e => ?_⟩
      cases e
      obtain ⟨o, n, e, c, hd, _⟩ := pl
      exact ⟨o, e, hd⟩
    · refine ⟨⟨o, I.kIn p o hk, hc⟩, fun a e => ?_⟩
      cases e
      exact ⟨o, I.kIn _ o hk, hd⟩
    · have z : ∃ o, s.heap.get? p = some o ∧ o.ExactDict := by
        rcases hk with ⟨kvs, hk⟩ | ⟨kvs, hk⟩
        · obtain ⟨_, _, _, _, o, _, _, e, ex, _⟩ := I.hok p _ hk
          exact ⟨o, e, ex⟩
        · obtain ⟨_, _, _, _, o, _, _, e, ex, _⟩ := I.hok p _ hk
          exact ⟨o, e, ex⟩
      obtain ⟨o, e, ex⟩ := z
      refine ⟨⟨o, e, ex.1⟩, fun a e2 => ?_⟩
      cases e2
      exact ⟨o, e, ex.2.1⟩
    · obtain ⟨o, _, _, _, e, ex, _⟩ := I.hok p _ hk
      refine ⟨⟨o, e, ex.1⟩, fun a e2 => ?_⟩
      cases e2
      exact ⟨o, e, ex.2.1⟩
  | _ => exact False.elim ty
def tBM0 (K : PySem.W.Frag) (T : String) (r : V → List V → Hp → VK → Prop) (to : TE) : TE := fun σ H Q => to σ H fun x H1 => tyV K T x H1 ∧ r x [] H1 Q
def tBM (K : PySem.W.Frag) (T : String) (r : V → List V → Hp → VK → Prop) (to : TE) (t : TA) : TE := fun σ H Q => to σ H fun x H1 => tyV K T x H1 ∧ t σ H1 fun xs H2 => r x xs H2 Q
variable {o e : Expr} {es : List Expr} {to : TE} {t : TA} {name : Str} {apos cpos : Pos} {T id : String} {r : V → List V → Hp → VK → Prop}
theorem pe_bm0 (pa : PlainAttrs T) (slot : Slot T name id) (hty : typeOf (.builtin id) = pure (.type "method_descriptor")) (hm : MtR X id r) (ho : PE X o to)
    (hbase : attributeBase o name X.env (eval o X.env) = eval o X.env := by rfl) (hline : (apos.endLine == cpos.line) = true := by rfl) : PE X (.Call (.Attribute o name apos) [] [] cpos) (tBM0 X.K T r to) := by
  intro pins s σ H Q I h
  refine wpAny_Call_method0_late hbase hline (thn (ho pins s σ H _ I h) fun v s1 ⟨x, H1, I1, r1, ty, q1⟩ => ?_)
  obtain ⟨h1, h2⟩ := tyV_is I1 r1 ty
  exact ⟨T, id, pa, slot, hty, h1, h2, Calls.callWith_builtin rfl (PySem.evalArgs_none (hm pins s1 σ H1 x [] v [] Q I1 r1 .nil q1))⟩
theorem pe_bm (pa : PlainAttrs T) (slot : Slot T name id) (hty : typeOf (.builtin id) = pure (.type "method_descriptor")) (hm : MtR X id r) (ho : PE X o to) (ha : PA X (e :: es) t)
    (hbase : attributeBase o name X.env (eval o X.env) = eval o X.env := by rfl)
    (hfew : ((backTo cpos (starEach (e :: es) X.env)).all (fun x => !x.1) && (backToKw cpos (keywordEach [] X.env)).all (fun x => x.1.isSome)
      && decide ((e :: es).length + ([] : List Keyword).length + (if ([] : List Keyword).isEmpty then 0 else 1) < 30)) = true := by rfl)
    (hline : (apos.endLine == cpos.line) = true := by rfl) (hs : starEach (e :: es) X.env = (false, eval e X.env) :: starEach es X.env := by rfl) (hplain : (backTo cpos (starEach es X.env)).any (·.1) = false := by rfl) :
    PE X (.Call (.Attribute o name apos) (e :: es) [] cpos) (tBM X.K T r to t) := by
  intro pins s σ H Q I h
  refine wpAny_Call_method_late hbase hfew hline rfl (thn (ho pins s σ H _ I h) fun v s1 ⟨x, H1, I1, r1, ty, q1⟩ => ?_)
  obtain ⟨h1, h2⟩ := tyV_is I1 r1 ty
  refine ⟨T, id, pa, slot, hty, h1, h2, ?_⟩
  have hA := ha cpos pins s1 σ H1 _ I1 q1
  rw [hs] at hA ⊢
  refine Calls.callWith_builtin (by show (false || (backTo cpos (starEach es X.env)).any (·.1)) = false; rw [hplain] <;> rfl) (Calls.evalArgs_plain ?_)
  exact thn hA fun us s2 ⟨vs, H2, I2, r2, q2⟩ => hm pins s2 σ H2 x vs v us Q I2 r1 r2 q2
/- xs.append(e), list.index on a module's tuple .. are MtR facts of 06m -/
end
end L2

namespace L2
open PySem PySem.Spec PyProof.Rows

def MtM (X : Cx) (id : String) (r : V → List V → Hp → VK → Prop) : Prop :=
  ∀ (pins : List (Addr × Obj)) (s : Shared) (σ : St) (H : Hp) (x : V) (xs : List V) (v : Value) (us : List Value) (Q : VK), Inv X pins σ H s → RelV x v → Vals xs us → r x xs H Q →
    wpAny (model X.prog X.w) X.A (call (.builtin id) (v :: us)) (EP X pins σ Q) X.xe s

/-! ### lists of values -/
theorem Vals.one : ∀ {x : V} {us : List Value}, Vals [x] us → ∃ u, us = [u] ∧ RelV x u
  | _, _, .cons r .nil => ⟨_, rfl, r⟩
theorem Vals.zero : ∀ {us : List Value}, Vals [] us → us = []
  | _, .nil => rfl
theorem Vals.dropLast {xs : List V} {us : List Value} (h : Vals xs us) : Vals xs.dropLast us.dropLast := by
  induction h with
  | nil => exact .nil
  | cons r t ih =>
    cases t with
    | nil => exact .nil
    | cons q t' => exact .cons r ih
theorem erase_last {α : Type} (l : List α) : l.eraseIdx (l.length - 1) = l.dropLast := by
  induction l with
  | nil => rfl
  | cons a r ih =>
    cases r with
    | nil => rfl
    | cons b r =>
      have e : (a :: b :: r).length - 1 = ((b :: r).length - 1) + 1 := by
        have h1 : (a :: b :: r).length = r.length + 2 := rfl
        have h2 : (b :: r).length = r.length + 1 := rfl
        omega
      rw [e, List.eraseIdx_cons_succ, ih]
      all_goals rfl
section
variable {X : Cx} {pins : List (Addr × Obj)} {σ : St} {H : Hp} {s : Shared} {l b : Addr} {xs ys zs : List V}

/-! ### the two steps: a tracked list is rewritten, a new list is laid -/
theorem Inv.lset {its its' : List Value} {n : Nat} {f : Array Value → Array Value} {t' : Nat} (I : Inv X pins σ H s) (hH : H l = some (.lst xs))
    (e : s.heap.get? l = some { cls := .type "list", data := .seq its.toArray n }) (hf : f its.toArray = its'.toArray) (hv : Vals ys its') (hz : ys.length ≤ sizeLine) :
    Inv X pins σ (upd H l (.lst ys)) { s with heap := s.heap.update l (Obj.mapSeq f), toks := t' } := by
  have q := PySem.IsL.update e f
  rw [hf] at q
  refine I.write (x := l) (e := l) (by rw [hH]; exact trivial) (.inl rfl) (fun b' u hb hu => (Heap.get?_update_other s.heap (Obj.mapSeq f) (Ne.symm hb)).trans hu) ⟨_, q⟩ ?_
  exact ⟨hz, its', _, hv, q⟩
theorem Inv.lnew {its : List Value} {t' : Nat} (I : Inv X pins σ H s) (hv : Vals ys its) (hz : ys.length ≤ sizeLine) :
    Inv X pins σ (upd H s.heap.objs.size (.lst ys)) { s with heap := s.heap.push { cls := .type "list", data := .seq its.toArray }, toks := t' } :=
  I.laid (fun _ _ q => Heap.get?_push_of_some _ q) (Nat.le_refl _) ⟨hz, its, 0, hv, Heap.get?_push_size _ rfl⟩
theorem Inv.fresh (I : Inv X pins σ H s) : H s.heap.objs.size = none := I.hok.fresh (Nat.le_refl _)
theorem Inv.lstM (I : Inv X pins σ H s) (hH : H l = some (.lst xs)) : xs.length ≤ sizeLine ∧ ∃ (its : List Value) (n : Nat), Vals xs its ∧ xs.length = its.length ∧ s.heap.get? l = some { cls := .type "list", data := .seq its.toArray n } := by
  obtain ⟨z, its, n, r, e⟩ := I.hok l _ hH
  exact ⟨z, its, n, r, r.length, e⟩

theorem notLongL {n : Nat} (h : n ≤ sizeLine) : Builtin.List.listTooLong n = false := by
  unfold Builtin.List.listTooLong
  exact decide_eq_false (by omega)
end

section
variable {X : Cx}

/-! ### methods -/
def rAppend : V → List V → Hp → VK → Prop := fun x vs H Q => ∃ l xs y, x = .ref l ∧ vs = [y] ∧ H l = some (.lst xs) ∧ xs.length < sizeLine ∧ Q .non (upd H l (.lst (xs ++ [y])))
theorem mt_append : MtM X "list.append" rAppend := by
  intro pins s σ H x vs v us Q I rx rv h
  obtain ⟨l, xs, y, rfl, rfl, hH, hz, q⟩ := h
  cases rx
  obtain ⟨u, rfl, ru⟩ := rv.one
  obtain ⟨z, its, n, r, hl, e⟩ := I.lstM hH
  refine call_meets F.slot_list_append ⟨_, e, rfl⟩ F.entry_list_append (F.args_list_append_2 _ _) (PySem.list_append l its.toArray n u (by rw [List.size_toArray]; omega)) ⟨e, ?_⟩
  refine ⟨.non, _, I.lset (its' := its ++ [u]) hH e (by simp) (r.append (.cons ru .nil)) ?_, rfl, q⟩
  rw [List.length_append, List.length_singleton]
  omega

def rExtend : V → List V → Hp → VK → Prop := fun x vs H Q => ∃ l b xs zs, x = .ref l ∧ vs = [.ref b] ∧ H l = some (.lst xs) ∧ H b = some (.lst zs) ∧ xs.length + zs.length ≤ sizeLine ∧ Q .non (upd H l (.lst (xs ++ zs)))
theorem mt_extend : MtM X "list.extend" rExtend := by
  intro pins s σ H x vs v us Q I rx rv h
  obtain ⟨l, b, xs, zs, rfl, rfl, hH, hB, hz, q⟩ := h
  cases rx
  obtain ⟨u, rfl, ru⟩ := rv.one
  cases ru
  obtain ⟨z, its, n, r, hl, e⟩ := I.lstM hH
  obtain ⟨z2, its2, n2, r2, hl2, e2⟩ := I.lstM hB
  have hsz : its.toArray.size + its2.toArray.size ≤ sizeLine := by rw [List.size_toArray, List.size_toArray]; omega
  have hlong : ¬ (!its.toArray.isEmpty && Builtin.List.listTooLong (its.toArray.size + its2.toArray.size)) = true := by
    rw [notLongL hsz, Bool.and_false]
    exact Bool.false_ne_true
  refine call_meets F.slot_list_extend ⟨_, e, rfl⟩ F.entry_list_extend (F.args_list_extend_2 _ _)
    (AutoSeq1.list_extend_list_list_0 l its.toArray n b its2.toArray n2 hlong (by rw [List.size_toArray]; omega) (by omega)) ⟨e, e2, ?_⟩
  refine ⟨.non, _, I.lset (its' := its ++ its2) hH e (by simp) (r.append r2) ?_, rfl, q⟩
  rw [List.length_append]
  omega

def rPop : V → List V → Hp → VK → Prop := fun x vs H Q => ∃ l xs y, x = .ref l ∧ vs = [] ∧ H l = some (.lst xs) ∧ xs[xs.length - 1]? = some y ∧ Q y (upd H l (.lst xs.dropLast))
theorem mt_pop : MtM X "list.pop" rPop := by
  intro pins s σ H x vs v us Q I rx rv h
  obtain ⟨l, xs, y, rfl, rfl, hH, hy, q⟩ := h
  cases rx
  have hus := rv.zero
  subst hus
  obtain ⟨z, its, n, r, hl, e⟩ := I.lstM hH
  obtain ⟨u, hu, ru⟩ := r.get hy
  have hy' : its.toArray[its.toArray.size - 1]? = some u := by
    show its.toArray[its.length - 1]? = some u
    rw [← Array.getElem?_toList, ← hl]
    exact hu
  refine call_meets F.slot_list_pop ⟨_, e, rfl⟩ F.entry_list_pop (F.args_list_pop_1 _) (MeetsSeq.list_pop_last l its.toArray n u hy' (by rw [List.size_toArray]; omega)) ⟨e, ?_⟩
  refine ⟨y, _, I.lset (its' := its.dropLast) hH e ?_ r.dropLast ?_, ru, q⟩
  · show its.toArray.eraseIdxIfInBounds (its.toArray.size - 1) = its.dropLast.toArray
    rw [List.size_toArray, List.eraseIdxIfInBounds_toArray, erase_last]
  · rw [List.length_dropLast]
    omega

/-! ### list + list, list += list, list * int -/
def rCat : R2 := fun x y H Q => ∃ l b xs zs, x = .ref l ∧ y = .ref b ∧ H l = some (.lst xs) ∧ H b = some (.lst zs) ∧ xs.length + zs.length ≤ sizeLine ∧ ∀ p, H p = none → Q (.ref p) (upd H p (.lst (xs ++ zs)))
theorem op_cat : OpR X (binaryOp .Add) rCat := by
  intro pins s σ H x y v u Q I rx ry h
  obtain ⟨l, b, xs, zs, rfl, rfl, hH, hB, hz, q⟩ := h
  cases rx
  cases ry
  obtain ⟨z, its, n, r, hl, e⟩ := I.lstM hH
  obtain ⟨z2, its2, n2, r2, hl2, e2⟩ := I.lstM hB
  refine PySem.P.add_list e e2 ?_ (by rw [List.size_toArray, List.size_toArray]; omega)
  have ea : its.toArray ++ its2.toArray = (its ++ its2).toArray := by simp
  rw [ea]
  exact ⟨.ref _, _, I.lnew (t' := s.toks) (r.append r2) (by rw [List.length_append]; omega), rfl, q _ I.fresh⟩
/-! ### del xs[i] -/
end

/-! ### xs[a:b] = ys -/
section
variable {prog : Program} {w : World} {A : Around} {E : Value → Shared → Prop} {s : Shared}
set_option maxRecDepth 100000 in
end

section
variable {X : Cx}
end
end L2

namespace L2
open PySem PySem.Spec PyProof.Rows

theorem Vals.ints : ∀ {ns : List Int} {us : List Value}, Vals (ns.map V.int) us → IntsAre us ns
  | [], us, h => by
    rw [List.map_nil] at h
    cases h
    exact IntsAre.nil
  | n :: ns, us, h => by
    rw [List.map_cons] at h
    cases h with
    | cons r t =>
      obtain ⟨k, rfl⟩ := r
      exact IntsAre.cons n k (Vals.ints t)
theorem Vals.ref1 {a : Addr} {us : List Value} (r : Vals [V.ref a] us) : us = [Value.ref a] := by
  cases r with
  | cons r t =>
    cases t
    cases r
    rfl
/-! ### the library's walks over a list of ints, kept objects alone -/
section
variable {prog : Program} {w : World} {A : Around} {E : Value → Shared → Prop} {s : Shared} {l : Addr} {its : List Value} {ns : List Int} {Q : Value → Shared → Prop}
theorem sum_raw (hh : A.handled = none) (hl : s.heap.IsList l its.toArray) (hi : IntsAre its ns)
    (h : ∀ h' tk t', (∀ b o, s.heap.get? b = some o → h'.get? b = some o) → Q (.int ns.sum t') { s with heap := h', toks := tk }) : wpAny (model prog w) A (call (.builtin "sum") [.ref l]) Q E s := by
  obtain ⟨xs, e⟩ := hi.allInts.items
  have hn : numsOf (intItems xs).toList = ns := by rw [← e]; exact hi.numsOf
  rw [nums_intItems] at hn
  rw [e] at hl
  refine PySem.sum_intListG hh hl fun h' tk t' hk => ?_
  have := h h' tk t' hk
  rw [preSum_eq, List.take_of_length_le (by simp), hn]; exact this
theorem max_raw (hh : A.handled = none) (hl : s.heap.IsList l its.toArray) (hi : IntsAre its ns) (hne : 0 < ns.length)
    (h : ∀ h' tk M t', (∀ b o, s.heap.get? b = some o → h'.get? b = some o) → M ∈ ns → (∀ a, a ∈ ns → a ≤ M) → Q (.int M t') { s with heap := h', toks := tk }) : wpAny (model prog w) A (call (.builtin "max") [.ref l]) Q E s := by
  obtain ⟨xs, e⟩ := hi.allInts.items
  have hn : numsOf (intItems xs).toList = ns := by rw [← e]; exact hi.numsOf
  rw [nums_intItems] at hn
  subst hn
  rw [e] at hl
  have hsz : 0 < xs.size := by simpa using hne
  refine PySem.max_intList hh hl hsz fun v h' tk hv hk => ?_
  obtain ⟨t, rfl⟩ := intItems_at hv
  obtain ⟨h1, h2⟩ := argBest_gt (numAt xs) (xs.size - 1)
  refine h h' tk _ t hk ?_ fun a ha => ?_
  · rw [numAt_eq]; exact PySem.getD_mem (by rw [List.length_map, Array.length_toList]; omega)
  · obtain ⟨j, hj, rfl⟩ := mem_getD ha
    rw [List.length_map, Array.length_toList] at hj
    rw [← numAt_eq]; exact h2 j (by omega)
end

/-! ### the calls, by values (CallR of 03t; MtR of 06l) -/
section
variable {X : Cx}
/-- sum(xs) of a list of ints -/
def rSum (K : PySem.W.Frag) : List V → Hp → VK → Prop := fun vs H Q => ∃ (a : Addr) (ns : List Int), vs = [V.ref a] ∧ SqL K H a (ns.map V.int) ∧ Q (.int ns.sum) H
/-- max(xs), min(xs) of a list of ints -/
def rMax (K : PySem.W.Frag) : List V → Hp → VK → Prop := fun vs H Q => ∃ (a : Addr) (ns : List Int), vs = [V.ref a] ∧ SqL K H a (ns.map V.int) ∧ 0 < ns.length ∧ ∀ m, m ∈ ns → (∀ y, y ∈ ns → y ≤ m) → Q (.int m) H
theorem cr_sum (hc : X.calm = true) : CallR X (.builtin "sum") (rSum X.K) := by
  intro pins s σ H vs us Q I r h
  obtain ⟨a, ns, rfl, hs, q⟩ := h
  obtain ⟨its, rv, hl, _⟩ := I.list hs
  rw [Vals.ref1 r]
  exact sum_raw (I.ok.hd hc) hl.isList rv.ints fun h' tk t' hk => ⟨.int _, H, I.kept hk, ⟨_, rfl⟩, q⟩
theorem cr_max (hc : X.calm = true) : CallR X (.builtin "max") (rMax X.K) := by
  intro pins s σ H vs us Q I r h
  obtain ⟨a, ns, rfl, hs, hne, q⟩ := h
  obtain ⟨its, rv, hl, _⟩ := I.list hs
  rw [Vals.ref1 r]
  exact max_raw (I.ok.hd hc) hl.isList rv.ints hne fun h' tk m t' hk h1 h2 => ⟨.int _, H, I.kept hk, ⟨_, rfl⟩, q m h1 h2⟩
/-! sorted, sort (fewer than 64 items: the library's own bound) -/
end

/-! ### list.index, flat items -/
section
variable {X : Cx}
end

/-! ### type(x) of an own instance; is, is not of a module's class -/
section
variable {X : Cx}
end

/-! ### any(xs), all(xs) of a list of bools -/
section
variable {X : Cx}
end

/-! ### == and != of data at any depth: none, bools, ints, texts, lists, tuples -/
mutual
inductive Dp (K : PySem.W.Frag) (H : Hp) : V → PyData → Prop
  | non : Dp K H .non .none
  | bl (b : Bool) : Dp K H (.bl b) (.bool b)
  | int (i : Int) : Dp K H (.int i) (.int i)
  | str (x : Str) : Dp K H (.str x) (.str x)
  | lst {a : Addr} {xs : List V} {ds : List PyData} : SqL K H a xs → DpAll K H xs ds → Dp K H (.ref a) (.list ds)
  | tup {a : Addr} {xs : List V} {ds : List PyData} : SqT K H a xs → DpAll K H xs ds → Dp K H (.ref a) (.tuple ds)
inductive DpAll (K : PySem.W.Frag) (H : Hp) : List V → List PyData → Prop
  | nil : DpAll K H [] []
  | cons {v : V} {vs : List V} {d : PyData} {ds : List PyData} : Dp K H v d → DpAll K H vs ds → DpAll K H (v :: vs) (d :: ds)
end
section
variable {X : Cx} {pins : List (Addr × Obj)} {σ : St} {H : Hp} {s : Shared}
mutual
theorem Dp.reads (I : Inv X pins σ H s) : ∀ (d : PyData) (v : V) (u : Value), Dp X.K H v d → RelV v u → ∃ as, Reads s.heap u d as
  | .none, _, _, h, r => by
    cases h
    cases r
    exact ⟨_, Reads.none⟩
  | .bool b, _, _, h, r => by
    cases h
    cases r
    exact ⟨_, Reads.bool b⟩
  | .int i, _, _, h, r => by
    cases h
    obtain ⟨t, rfl⟩ := r
    exact ⟨_, Reads.int i t⟩
  | .str x, _, _, h, r => by
    cases h
    obtain ⟨t, rfl⟩ := r
    exact ⟨_, Reads.str x t⟩
  | .list ds, _, _, h, r => by
    cases h with
    | lst hs ha =>
      cases r
      obtain ⟨its, rv, ⟨o, n, ho, hc, _, hd⟩, _⟩ := I.list hs
      obtain ⟨as, hr⟩ := Dp.readsAll I ds _ its ha rv
      exact ⟨_, Reads.list ho hc hd hr⟩
  | .tuple ds, _, _, h, r => by
    cases h with
    | tup hs ha =>
      cases r
      obtain ⟨its, rv, ⟨o, ho, hc, n, hd⟩, _⟩ := I.tuple hs
      obtain ⟨as, hr⟩ := Dp.readsAll I ds _ its ha rv
      exact ⟨_, Reads.tuple ho hc hd hr⟩
  | .dict _, _, _, h, _ => by cases h
theorem Dp.readsAll (I : Inv X pins σ H s) : ∀ (ds : List PyData) (vs : List V) (us : List Value), DpAll X.K H vs ds → Vals vs us → ∃ as, ReadsAll s.heap us ds as
  | [], _, _, h, r => by
    cases h
    cases r
    exact ⟨_, ReadsAll.nil⟩
  | d :: ds, _, _, h, r => by
    cases h with
    | cons h1 h2 =>
      cases r with
      | cons r1 r2 =>
        obtain ⟨as, q1⟩ := Dp.reads I d _ _ h1 r1
        obtain ⟨bs, q2⟩ := Dp.readsAll I ds _ _ h2 r2
        exact ⟨_, ReadsAll.cons q1 q2⟩
end
end
section
variable {X : Cx}
def rEqD (K : PySem.W.Frag) : R2 := fun x y H Q => ∃ d e, Dp K H x d ∧ Dp K H y e ∧ SeqAt.shaped d = true ∧ SeqAt.shaped e = true ∧ Q (.bl (PyData.eqv d e)) H
theorem op_eqD (hu : X.A.units + 64 < cLine) : OpR X (compareOp .Eq) (rEqD X.K) := by
  intro pins s σ H x y v u Q I rx ry h
  obtain ⟨d, e, hd, he, sd, se, q⟩ := h
  obtain ⟨as, r1⟩ := Dp.reads I d x v hd rx
  obtain ⟨bs, r2⟩ := Dp.reads I e y u he ry
  exact SeqAt.compareEq_shaped r1 r2 sd se hu ⟨.bl _, H, I, rfl, q⟩
end
end L2

namespace L2
open PySem PySem.Spec PyProof.Rows
abbrev CellAt (h : Heap) (c : Addr) (v : Option Value) : Prop := h.IsCell c v
def relS (scope sc : Scope) : Scope :=
  { scope with names := scope.names.map fun (n, k) => if (k == .free && sc.kind == .function && sc.names.lookup n == some .cell) then (n, .cell) else (n, k) }

def cloFrom (cells : List (Str × Addr)) : List (Str × NameKind) → List (Str × Addr) → List (Str × Addr)
  | [], acc => acc
  | (n, k) :: r, acc => if k == .free then cloFrom cells r ((n, (cells.lookup n).getD 0) :: acc) else cloFrom cells r acc

theorem closure_loop (env : Env) (f : Str × NameKind → List (Str × Addr) → Sem (ForInStep (List (Str × Addr))))
    (hf : ∀ n k c, f (n, k) c = if k == .free then (do let a ← cellOf env n; pure (.yield ((n, a) :: c))) else pure (.yield c)) :
    ∀ (names : List (Str × NameKind)) (acc : List (Str × Addr)), (∀ y ∈ names, y.2 = .free → ∃ c, env.cells.lookup y.1 = some c) → forIn names acc f = pure (cloFrom env.cells names acc)
  | [], acc, _ => by rw [List.forIn_nil]; rfl
  | (n, k) :: r, acc, h => by
    rw [List.forIn_cons, hf]
    have ih := fun acc => closure_loop env f hf r acc fun y hy => h y (List.mem_cons_of_mem _ hy)
    unfold cloFrom
    by_cases hk : (k == NameKind.free) = true
    · rw [if_pos hk, if_pos hk]
      obtain ⟨c, hc⟩ := h (n, k) List.mem_cons_self (by simpa using hk)
      have e : cellOf env n = pure c := by unfold cellOf; rw [hc]
      rw [e]
      have e2 : (env.cells.lookup n).getD 0 = c := by rw [hc]; rfl
      rw [e2]
      exact ih _
    · rw [if_neg hk, if_neg hk]
      exact ih _
theorem closure_ok {scope : Scope} {env : Env} (h : ∀ y ∈ scope.names, y.2 = .free → ∃ c, env.cells.lookup y.1 = some c) : closureFor scope env = pure (cloFrom env.cells scope.names []) := by
  simp only [closureFor]
  rw [closure_loop env _ (fun n k c => rfl) scope.names [] h]
  rfl

theorem mem_lookup {α : Type} : ∀ {l : List (Str × α)} {n : Str} {c : α}, (n, c) ∈ l → ∃ c', l.lookup n = some c'
  | (k, v) :: r, n, c, h => by
    rw [List.lookup_cons]
    cases hb : n == k with
    | true => exact ⟨_, rfl⟩
    | false =>
      rcases List.mem_cons.mp h with e | h
      · cases e; simp at hb
      · exact mem_lookup h

theorem cloFrom_mem {cells : List (Str × Addr)} : ∀ {names : List (Str × NameKind)} {acc : List (Str × Addr)} {n : Str} {c : Addr}, (n, c) ∈ cloFrom cells names acc → (n, c) ∈ acc ∨ ((n, .free) ∈ names ∧ c = (cells.lookup n).getD 0)
  | [], _, _, _, h => .inl h
  | (m, k) :: r, acc, n, c, h => by
    unfold cloFrom at h
    split at h
    · rename_i hk
      have hk : k = .free := by simpa using hk
      rcases cloFrom_mem h with h | ⟨h1, h2⟩
      · rcases List.mem_cons.mp h with e | h
        · cases e; exact .inr ⟨hk ▸ List.mem_cons_self, rfl⟩
        · exact .inl h
      · exact .inr ⟨List.mem_cons_of_mem _ h1, h2⟩
    · rcases cloFrom_mem h with h | ⟨h1, h2⟩
      · exact .inl h
      · exact .inr ⟨List.mem_cons_of_mem _ h1, h2⟩
theorem cloFrom_acc {cells : List (Str × Addr)} : ∀ {names : List (Str × NameKind)} {acc : List (Str × Addr)} {p : Str × Addr}, p ∈ acc → p ∈ cloFrom cells names acc
  | [], _, _, h => h
  | (m, k) :: r, acc, p, h => by
    unfold cloFrom
    split
    · exact cloFrom_acc (List.mem_cons_of_mem _ h)
    · exact cloFrom_acc h
theorem cloFrom_has {cells : List (Str × Addr)} : ∀ {names : List (Str × NameKind)} {acc : List (Str × Addr)} {n : Str}, (n, .free) ∈ names → (n, (cells.lookup n).getD 0) ∈ cloFrom cells names acc
  | (m, k) :: r, acc, n, h => by
    unfold cloFrom
    rcases List.mem_cons.mp h with e | h
    · cases e
      exact cloFrom_acc List.mem_cons_self
    · split
      · exact cloFrom_has h
      · exact cloFrom_has h

theorem cells_mem : ∀ {names : List (Str × NameKind)} {h : Heap} {acc : List (Str × Addr)} {x : Str} {c : Addr}, (x, c) ∈ cellsFrom h.objs.size names acc →
    (x, c) ∈ acc ∨ ((x, .cell) ∈ names ∧ h.objs.size ≤ c ∧ CellAt (pushCells h names) c none)
  | [], _, _, _, _, h => .inl h
  | (n, k) :: r, h, acc, x, c, hm => by
    unfold cellsFrom at hm
    unfold pushCells
    split at hm
    · rename_i hk
      rw [if_pos hk]
      have hk : k = .cell := by simpa using hk
      rw [← Heap.size_push h { cls := .type "cell", data := .cell none }] at hm
      rcases cells_mem hm with hm | ⟨h1, h2, h3⟩
      · rcases List.mem_cons.mp hm with e | hm
        · cases e
          exact .inr ⟨hk ▸ List.mem_cons_self, Nat.le_refl _, _, pushCells_keeps r _ _ _ (Heap.get?_push_size _ rfl), rfl⟩
        · exact .inl hm
      · rw [Heap.size_push] at h2
        exact .inr ⟨List.mem_cons_of_mem _ h1, Nat.le_of_succ_le h2, h3⟩
    · rename_i hk
      rw [if_neg hk]
      rcases cells_mem hm with hm | ⟨h1, h2, h3⟩
      · exact .inl hm
      · exact .inr ⟨List.mem_cons_of_mem _ h1, h2, h3⟩
theorem cells_acc : ∀ {names : List (Str × NameKind)} {n : Nat} {acc : List (Str × Addr)} {p : Str × Addr}, p ∈ acc → p ∈ cellsFrom n names acc
  | [], _, _, _, h => h
  | (m, k) :: r, n, acc, p, h => by
    unfold cellsFrom
    split
    · exact cells_acc (List.mem_cons_of_mem _ h)
    · exact cells_acc h
theorem cells_has : ∀ {names : List (Str × NameKind)} {n : Nat} {acc : List (Str × Addr)} {x : Str}, (x, .cell) ∈ names → ∃ c, (x, c) ∈ cellsFrom n names acc
  | (m, k) :: r, n, acc, x, h => by
    unfold cellsFrom
    rcases List.mem_cons.mp h with e | h
    · cases e
      exact ⟨n, cells_acc List.mem_cons_self⟩
    · split
      · exact cells_has h
      · exact cells_has h
theorem cells_inj : ∀ {names : List (Str × NameKind)} {h : Heap} {acc : List (Str × Addr)} {x y : Str} {c : Addr}, (∀ p ∈ acc, p.2 < h.objs.size) → (∀ x y c, (x, c) ∈ acc → (y, c) ∈ acc → x = y) →
    (x, c) ∈ cellsFrom h.objs.size names acc → (y, c) ∈ cellsFrom h.objs.size names acc → x = y
  | [], _, _, _, _, _, _, hi, h1, h2 => hi _ _ _ h1 h2
  | (n, k) :: r, h, acc, x, y, c, hl, hi, h1, h2 => by
    unfold cellsFrom at h1 h2
    split at h1
    · rename_i hk
      rw [if_pos hk] at h2
      rw [← Heap.size_push h { cls := .type "cell", data := .cell none }] at h1 h2
      refine cells_inj (h := h.push _) (fun p hp => ?_) (fun x y c a b => ?_) h1 h2
      · rw [Heap.size_push]
        rcases List.mem_cons.mp hp with rfl | hp
        · exact Nat.lt_succ_self _
        · exact Nat.lt_succ_of_lt (hl p hp)
      · rcases List.mem_cons.mp a with e | a <;> rcases List.mem_cons.mp b with e' | b
        · cases e; cases e'; rfl
        · cases e; exact absurd (hl _ b) (Nat.lt_irrefl _)
        · cases e'; exact absurd (hl _ a) (Nat.lt_irrefl _)
        · exact hi _ _ _ a b
    · rename_i hk
      rw [if_neg hk] at h2
      exact cells_inj hl hi h1 h2

theorem newEnv_comp {M : Model} {A : Around} {E : Value → Shared → Prop} {s : Shared} {scope : Scope} {globals : Addr} {closure : List (Str × Addr)} {qual : Str} {func : Option Addr} {code : Value} {around : Env} {builtins : Addr} {Q : Env → Shared → Prop}
    (h : Q (newEnv scope s.heap.objs.size globals (cellsFrom (s.heap.objs.size + 1) scope.names closure) qual func code (some around) builtins)
      { s with heap := pushCells (s.heap.push { cls := .type "dict", data := .dict #[] }) scope.names }) :
    wpAny M A (newFunctionEnv scope globals closure [] qual func code (some around) builtins) Q E s := by
  simp only [newFunctionEnv, Option.isSome_some, if_true]
  refine wpAny_bind (wpAny_alloc ?_)
  refine wpAny_bind (wpAny_layCells _ (fun n k c => rfl) scope.names closure _ _ ?_)
  rw [show ({ s with heap := s.heap.push { cls := .type "dict", data := .dict #[] } } : Shared).heap.objs.size = s.heap.objs.size + 1 from Heap.size_push ..]
  rw [List.forIn_nil]
  exact wpAny_bind (wpAny_pure (wpAny_pure h))

/-- every name of the written scope, in the scope that runs -/
theorem lookup_relS {sc : Scope} : ∀ {names : List (Str × NameKind)} {x : Str} {k : NameKind},
    (names.map fun (n, k) => if (k == NameKind.free && sc.kind == .function && sc.names.lookup n == some .cell) then (n, NameKind.cell) else (n, k)).lookup x = some k →
    ∃ k', names.lookup x = some k' ∧ (k = k' ∨ (k' = .free ∧ k = .cell))
  | [], _, _, h => by simp at h
  | (n, k₀) :: r, x, k, h => by
    have ih := @lookup_relS sc r x k
    have h' : List.lookup x ((if (k₀ == NameKind.free && sc.kind == .function && sc.names.lookup n == some .cell) = true then (n, NameKind.cell) else (n, k₀)) :: (r.map _)) = some k := h
    cases hx : x == n with
    | true =>
      simp only [List.lookup_cons, hx]
      by_cases hc : (k₀ == NameKind.free && sc.kind == .function && sc.names.lookup n == some .cell) = true
      · rw [if_pos hc] at h'
        simp only [List.lookup_cons, hx] at h'
        cases h'
        simp only [Bool.and_eq_true, beq_iff_eq] at hc
        exact ⟨k₀, rfl, .inr ⟨hc.1.1, rfl⟩⟩
      · rw [if_neg hc] at h'
        simp only [List.lookup_cons, hx] at h'
        cases h'
        exact ⟨_, rfl, .inl rfl⟩
    | false =>
      simp only [List.lookup_cons, hx]
      by_cases hc : (k₀ == NameKind.free && sc.kind == .function && sc.names.lookup n == some .cell) = true
      · rw [if_pos hc] at h'
        simp only [List.lookup_cons, hx] at h'
        exact ih h'
      · rw [if_neg hc] at h'
        simp only [List.lookup_cons, hx] at h'
        exact ih h'
/-- the names of a comprehension's block: its own (with their places in N), or captured -/
structure BlkOk (N : List Str) (sc scope : Scope) (own : List (Str × Nat)) : Prop where
  kind : scope.kind = .function
  uniq : ∀ y ∈ scope.names, scope.names.lookup y.1 = some y.2
  ix : ∀ p ∈ own, N[p.2]? = some p.1
  free : ∀ y ∈ scope.names, y.2 = .free → sc.names.lookup y.1 = some .cell ∨ sc.names.lookup y.1 = some .free
  own : ∀ y ∈ scope.names, y.2 = .local ∨ y.2 = .cell → y.1 ∈ own.map (·.1) ∨ y.1 ∉ N
/-- the slots of the block's own names forgotten -/
def wipe (σ : St) : List Nat → St
  | [] => σ
  | v :: vs => (wipe σ vs).set v none
theorem wipe_length (σ : St) : ∀ vs : List Nat, (wipe σ vs).length = σ.length
  | [] => rfl
  | v :: vs => by unfold wipe; rw [List.length_set, wipe_length σ vs]
theorem wipe_some {σ : St} {i : Nat} {x : V} : ∀ {vs : List Nat}, (wipe σ vs)[i]? = some (some x) → σ[i]? = some (some x) ∧ i ∉ vs
  | [], h => ⟨h, by simp⟩
  | v :: vs, h => by
    unfold wipe at h
    by_cases hi : v = i
    · subst hi
      by_cases hv : v < (wipe σ vs).length
      · rw [List.getElem?_set_self hv] at h; cases h
      · rw [List.getElem?_eq_none (by simpa using hv)] at h; cases h
    · rw [List.getElem?_set_ne hi] at h
      obtain ⟨h1, h2⟩ := wipe_some h
      exact ⟨h1, by simp only [List.mem_cons, not_or]; exact ⟨fun e => hi e.symm, h2⟩⟩

/-- the context of a block that starts at s, its iterator's objects at fp -/
abbrev Cx.blk (X : Cx) (s : Shared) (H : Hp) (scope : Scope) (cenv : Env) (fp : List Addr) : Cx := { X with s_0 := s, H_0 := H, env := cenv, outer := X.stack, ex := fp, fn := fun x => scope.names.lookup x == some .cell, pn := [], xe := fun _ _ => False }
section
variable {X : Cx} {pins : List (Addr × Obj)} {σ : St} {H : Hp} {s : Shared}
theorem block_start {scope : Scope} {own : List (Str × Nat)} {fp : List Addr} (I : Inv X pins σ H s) (ok : BlkOk X.N X.env.scope scope own) (hN : X.N.Nodup) (hfp : ∀ b ∈ fp, FpOk X pins H b ∧ b < s.heap.objs.size) :
    Inv (X.blk s H scope (compEnvC scope (cellsFrom (s.heap.objs.size + 1) scope.names (cloFrom X.env.cells scope.names [])) s.heap.objs.size X.env) fp) [] (wipe σ (own.map (·.2))) H { s with heap := pushCells (s.heap.push { cls := .type "dict", data := .dict #[] }) scope.names } := by
  have hfree : ∀ y ∈ scope.names, y.2 = .free → ∃ c, X.env.cells.lookup y.1 = some c := fun y hy e => by
    rcases ok.free y hy e with k | k
    · exact I.ok.has _ (.inl k)
    · exact I.ok.has _ (.inr k)
  generalize hcenv : compEnvC scope (cellsFrom (s.heap.objs.size + 1) scope.names (cloFrom X.env.cells scope.names [])) s.heap.objs.size X.env = cenv
  have kp : ∀ b o, s.heap.get? b = some o → (pushCells (s.heap.push { cls := .type "dict", data := .dict #[] }) scope.names).get? b = some o := fun b o e => pushCells_keeps _ _ _ _ (Heap.get?_push_of_some _ e)
  have hL : cenv.locals = s.heap.objs.size := by rw [← hcenv]; rfl
  have hcl : cenv.cells = cellsFrom (s.heap.objs.size + 1) scope.names (cloFrom X.env.cells scope.names []) := by rw [← hcenv]; rfl
  have hsc : cenv.scope = relS scope X.env.scope := by rw [← hcenv]; rfl
  rw [← Heap.size_push s.heap { cls := .type "dict", data := .dict #[] }] at hcl
  have cm : ∀ {y c}, (y, c) ∈ cloFrom X.env.cells scope.names [] → X.env.cells.lookup y = some c ∧ c < s.heap.objs.size := fun {y c} hm => by
    rcases cloFrom_mem hm with hm | ⟨h1, rfl⟩
    · cases hm
    · obtain ⟨c, hc⟩ := hfree _ h1 rfl
      rw [hc]
      obtain ⟨w, z⟩ := I.cell _ _ hc
      exact ⟨rfl, z.lt⟩
  have mem : ∀ {y c}, cenv.cells.lookup y = some c → (X.env.cells.lookup y = some c ∧ c < s.heap.objs.size) ∨ (s.heap.objs.size + 1 ≤ c ∧ CellAt (pushCells (s.heap.push { cls := .type "dict", data := .dict #[] }) scope.names) c none) := fun {y c} e => by
    rw [hcl] at e
    rcases cells_mem (PySem.mem_of_lookup e) with hm | ⟨_, h2, h3⟩
    · exact .inl (cm hm)
    · rw [Heap.size_push] at h2; exact .inr ⟨h2, h3⟩
  have look : ∀ {y}, scope.names.lookup y = some .free → ∃ c, cenv.cells.lookup y = some c ∧ X.env.cells.lookup y = some c := fun {y} hl => by
    have hy : (y, NameKind.free) ∈ scope.names := PySem.mem_of_lookup hl
    obtain ⟨c', e'⟩ := mem_lookup (cells_acc (names := scope.names) (n := (s.heap.push { cls := .type "dict", data := .dict #[] }).objs.size) (cloFrom_has (cells := X.env.cells) (acc := []) hy))
    rw [← hcl] at e'
    refine ⟨c', e', ?_⟩
    rw [hcl] at e'
    rcases cells_mem (PySem.mem_of_lookup e') with hm | ⟨h1, _, _⟩
    · exact (cm hm).1
    · have := ok.uniq _ h1
      rw [hl] at this; cases this
  have okB : (X.blk s H scope cenv fp).Ok := by
    refine ⟨I.ok.mod, by show cenv.scope.kind = _; rw [hsc]; exact ok.kind, by show cenv.globals = _; rw [← hcenv]; exact I.ok.glob, by show cenv.builtins = _; rw [← hcenv]; exact I.ok.blt, by show s.heap.objs.size ≤ cenv.locals; rw [hL]; exact Nat.le_refl _,
      fun y z c e1 e2 => ?_, fun y hy => ?_, fun y c z e => ?_, I.ok.hd, I.ok.frames, .inl rfl, fun b hb => ⟨?_, fun y c e z => ?_⟩, I.bs, Nat.le_trans I.ok.bsz I.sz, fun b o e hb => ?_, fun b hb z => ?_, I.stack, I.stkFree⟩
    · have e1 : cenv.cells.lookup y = some c := e1
      have e2 : cenv.cells.lookup z = some c := e2
      rw [hcl] at e1 e2
      refine cells_inj (fun p hp => ?_) (fun y z c a b => I.ok.inj y z c (cm a).1 (cm b).1) (PySem.mem_of_lookup e1) (PySem.mem_of_lookup e2)
      rw [Heap.size_push]
      exact Nat.lt_succ_of_lt (cm (y := p.1) (c := p.2) hp).2
    · show ∃ c, cenv.cells.lookup y = some c
      have key : ∀ k, cenv.kindOf y = some k → (k = .cell ∨ k = .free) → ∃ c, cenv.cells.lookup y = some c := fun k hk hk' => by
        unfold Env.kindOf at hk
        rw [hsc] at hk
        obtain ⟨k', e, r⟩ := lookup_relS hk
        have : k' = .cell ∨ k' = .free := by
          rcases r with rfl | ⟨rfl, _⟩
          · exact hk'
          · exact .inr rfl
        rcases this with rfl | rfl
        · obtain ⟨c, hm⟩ := cells_has (n := (s.heap.push { cls := .type "dict", data := .dict #[] }).objs.size) (acc := cloFrom X.env.cells scope.names []) (PySem.mem_of_lookup e)
          obtain ⟨c', e'⟩ := mem_lookup hm
          exact ⟨c', by rw [hcl]; exact e'⟩
        · obtain ⟨c, h1, _⟩ := look e
          exact ⟨c, h1⟩
      rcases hy with hy | hy
      · exact key _ hy (.inl rfl)
      · exact key _ hy (.inr rfl)
    · have z : (scope.names.lookup y == some NameKind.cell) = true := z
      have z : scope.names.lookup y = some .cell := by simpa using z
      have e : cenv.cells.lookup y = some c := e
      rw [hcl] at e
      rcases cells_mem (PySem.mem_of_lookup e) with hm | ⟨_, h2, _⟩
      · rcases cloFrom_mem hm with hm | ⟨h1, _⟩
        · cases hm
        · have q := ok.uniq _ h1
          rw [z] at q; cases q
      · rw [Heap.size_push] at h2
        exact Nat.le_of_succ_le h2
    · show b ≠ cenv.locals
      rw [hL]; exact Nat.ne_of_lt (hfp b hb).2
    · have e : cenv.cells.lookup y = some c := e
      rcases mem e with ⟨h1, _⟩ | ⟨h1, _⟩
      · exact (hfp b hb).1.2.2.2.2.1 y c h1 z
      · have h2 : s.heap.objs.size + 1 ≤ b := by rw [← z]; exact h1
        exact absurd (Nat.lt_of_lt_of_le (hfp b hb).2 (Nat.le_of_succ_le h2)) (Nat.lt_irrefl _)
    · rcases (hfp b hb).1.2.2.2.1 with z | z
      · exact I.ok.noex b o e z
      · exact absurd (Nat.lt_of_lt_of_le (Heap.lt_size e) (Nat.le_trans I.ok.bsz z)) (Nat.lt_irrefl _)
    · rcases List.mem_cons.mp (I.stkSub b z) with z | z
      · exact (hfp b hb).1.2.1 z
      · exact (hfp b hb).1.2.2.1 z
  refine ⟨okB, rfl, I.bare, Un.kept kp, ⟨fun _ => none, ?_, fun i y av e1 e2 e3 => ?_⟩, fun y c e => ?_, ?_, fun y c e => ?_, fun p hp => ?_, I.hok.kept kp, by rw [wipe_length]; exact I.len⟩
  · show Heap.Ns _ cenv.locals _
    rw [hL]
    exact Heap.Ns.keeps (Heap.Ns.new ..) fun b o e => pushCells_keeps _ _ _ _ e
  · obtain ⟨e2, hne⟩ := wipe_some e2
    have hfr : scope.names.lookup y = some .free ∧ (cenv.kindOf y = some .cell ∨ cenv.kindOf y = some .free) := by
      have key : ∀ k, cenv.scope.names.lookup y = some k → k = .local ∨ k = .cell ∨ k = .free → scope.names.lookup y = some .free ∧ (cenv.kindOf y = some .cell ∨ cenv.kindOf y = some .free) := fun k hk hk' => by
        have hk0 := hk
        rw [hsc] at hk
        obtain ⟨k', e, r⟩ := lookup_relS hk
        have no : ¬ (k' = .local ∨ k' = .cell) := fun hh => by
          rcases ok.own _ (PySem.mem_of_lookup e) hh with e' | e'
          · obtain ⟨p, hp, hpy⟩ := List.mem_map.mp e'
            have e3 := ok.ix p hp
            have : p.1 = y := hpy
            rw [this] at e3
            exact hne (List.mem_map.mpr ⟨p, hp, nodup_ix hN e3 e1⟩)
          · exact e' (List.mem_of_getElem? e1)
        rcases r with rfl | ⟨rfl, rfl⟩
        · rcases hk' with rfl | rfl | rfl
          · exact absurd (.inl rfl) no
          · exact absurd (.inr rfl) no
          · exact ⟨e, .inr hk0⟩
        · exact ⟨e, .inl hk0⟩
      have e3 : Vis cenv.scope y := e3
      rcases e3 with e3 | e3 | e3
      · exact key _ e3 (.inl rfl)
      · exact key _ e3 (.inr (.inl rfl))
      · exact key _ e3 (.inr (.inr rfl))
    obtain ⟨m, hn, hl⟩ := I.loc
    have hvis : Vis X.env.scope y := (ok.free _ (PySem.mem_of_lookup hfr.1) rfl).elim (fun k => .inr (.inl k)) (fun k => .inr (.inr k))
    obtain ⟨w, r, q⟩ := hl i y av e1 e2 hvis
    refine ⟨w, r, .inr ⟨hfr.2, ?_⟩⟩
    obtain ⟨c, h1, h2⟩ := look hfr.1
    rcases q with ⟨k, _⟩ | ⟨_, c', e', z⟩
    · have k : X.env.scope.names.lookup y = some .local := k
      rcases ok.free _ (PySem.mem_of_lookup hfr.1) rfl with k' | k' <;> rw [show X.env.scope.names.lookup y = _ from k'] at k <;> cases k
    · rw [h2] at e'; cases e'
      exact ⟨c, h1, z.keeps kp⟩
  · have e : cenv.cells.lookup y = some c := e
    rcases mem e with ⟨h1, _⟩ | ⟨_, z⟩
    · obtain ⟨w, z⟩ := I.cell y c h1
      exact ⟨w, z.keeps kp⟩
    · exact ⟨_, z⟩
  · show H cenv.locals = none
    rw [hL]; exact I.hok.fresh (Nat.le_refl _)
  · have e : cenv.cells.lookup y = some c := e
    rcases mem e with ⟨h1, _⟩ | ⟨h1, _⟩
    · exact I.freeC y c h1
    · exact I.hok.fresh (Nat.le_of_succ_le h1)
  · exact absurd (show p ∈ ([] : List (Addr × Obj)) ++ [] from hp) (by simp)

/-- an item appended to a tracked list -/
theorem app_ok {E : Value → Shared → Prop} {D : Addr} {xs : List V} {y : V} {v : Value} {Q : Value → Shared → Prop} (I : Inv X pins σ H s) (hD : H D = some (.lst xs)) (hz : xs.length < sizeLine) (r : RelV y v)
    (h : ∀ s', Inv X pins σ (upd H D (.lst (xs ++ [y]))) s' → Q .none s') : wpAny (model X.prog X.w) X.A (call (.builtin "list.append") [.ref D, v]) Q E s := by
  obtain ⟨hz', its, n, ri, e⟩ := I.hok D _ hD
  have hl := ri.length
  refine append_at (hsz := by rw [List.size_toArray]; omega) e fun h' sb ho' => ?_
  refine h { s with heap := h' } (I.write (t' := s.toks) (by rw [hD]; trivial) (.inl rfl) (fun b u hb q => (sb.2 b hb).trans q) ⟨_, ho'⟩ ⟨by rw [List.length_append]; exact hz, its ++ [v], n + 1, ri.append (.cons r .nil), ?_⟩)
  rw [ho']
  simp

/-- a clause's tests -/
def PTs (X : Cx) (ifs : List Expr) (t : TT) : Prop :=
  ∀ (pins : List (Addr × Obj)) (s : Shared) (σ : St) (H : Hp) (Q : Bool → Hp → Prop), Inv X pins σ H s → t σ H Q →
    wpAny (model X.prog X.w) X.A (forIn ifs true fun c r => if r = true then do let ok ← isTrue c X.env (eval c X.env); pure (ForInStep.yield ok) else pure (ForInStep.yield r)) (TP X pins σ Q) X.xe s
def tYes : TT := fun _ H Q => Q true H
theorem pts_nil : PTs X [] tYes := fun _ _ _ H _ I h => wpAny_tests_nil ⟨H, I, h⟩
end

theorem thnF {α : Type} {t : Sem α} {Q Q' : α → Shared → Prop} {M : Model} {A : Around} {E : Value → Shared → Prop} {s : Shared} (h : wpAny M A t Q (fun _ _ => False) s) (hQ : ∀ a s, Q a s → Q' a s) : wpAny M A t Q' E s := wpAny_mono h hQ fun _ _ z => False.elim z

/-- the loop of a list comprehension's block, the target of any form (codeAny_compLoop_tests asks a target that no tuple goes to; statement and proof follow it, PyProof/CompMap.lean:41-61, with the step letOwnedTupleGo kept) -/
theorem compLoop_any {prog : Program} {w : World} {A : Around} {R : Result → Shared → Prop} {s : Shared} {elt target iter : Expr} {ifs : List Expr} {scope : Scope} {pos : Pos} {it acc : Value} {env : Env} (I : Nat → Shared → Prop)
    (turn : ∀ n s, I n s → wpAny (model prog w) A (pyNext it) (fun r s₁ => match r with
      | none => R (.ok .next) s₁
      | some v => wpAny (model prog w) A (letOwnedTupleGo target it v) (fun _ s₁' => wpAny (model prog w) A (assign target env v) (fun _ s₂ =>
          wpAny (model prog w) A (forIn ifs true fun c r => if r = true then do let ok ← isTrue c env (eval c env); pure (ForInStep.yield ok) else pure (ForInStep.yield r)) (fun ok s₃ =>
            if ok = true then wpAny (model prog w) A (eval elt env) (fun x s₄ =>
              wpAny (model prog w) A (call (.builtin "list.append") [acc, x]) (fun _ s₅ => ∃ m, m < n ∧ I m s₅) (notedBy (model prog w) A env fun e s' => R (.error e) s') s₄) (notedBy (model prog w) A env fun e s' => R (.error e) s') s₃
            else ∃ m, m < n ∧ I m s₃) (notedBy (model prog w) A env fun e s' => R (.error e) s') s₂) (notedBy (model prog w) A env fun e s' => R (.error e) s') s₁') (notedBy (model prog w) A env fun e s' => R (.error e) s') s₁) (notedBy (model prog w) A env fun e s' => R (.error e) s') s)
    (n : Nat) (h : I n s) :
    codeAny (model prog w) A (.compLoop (.ListComp elt [⟨target, iter, ifs, 0⟩] scope pos) 0 it acc env) R s := by
  refine codeAny_loop rfl I (fun n s hI => ?_) n h
  show wpAny _ A ((compTurn (.ListComp elt [⟨target, iter, ifs, 0⟩] scope pos) 0 it acc env).onRaise (fun x => do noteFrame x env; theTreesLotGoes x)) _ _ s
  refine wpAny_noted ?_
  rw [compTurn_list]
  refine wpAny_bind (wpAny_standAt (wpAny_bind (wpAny_mono (turn n s hI) (fun r s₁ h₁ => ?_) fun _ _ h' => h')))
  cases r with
  | none => exact wpAny_pure h₁
  | some v =>
    refine wpAny_bind (wpAny_mono h₁ (fun _ s₁' h₁' => ?_) fun _ _ h' => h')
    refine wpAny_bind (wpAny_mono h₁' (fun _ s₂ h₂ => wpAny_bind (wpAny_mono h₂ (fun ok s₃ h₃ => ?_) fun _ _ h' => h')) fun _ _ h' => h')
    cases ok with
    | false => exact wpAny_pure ⟨rfl, h₃⟩
    | true =>
      exact wpAny_bind (wpAny_bind (wpAny_mono h₃ (fun x s₄ h₄ => wpAny_bind (wpAny_mono h₄ (fun _ s₅ h₅ => wpAny_pure (wpAny_pure ⟨rfl, h₅⟩)) fun _ _ h' => h')) fun _ _ h' => h'))

section
variable {X : Cx}
/-- [elt for target in iter if ..]: D the new list; W by the turn and a measure, Nx what a turn is to reach -/
def tLc (wi : TI) (g : TG) (tt : TT) (te : TE) (vs : List Nat) : TE := fun σ H Q => wi σ H fun J H1 => ∀ D, H1 D = none → ∃ W : Nat → Nat → Hp → Prop, (∃ m, W 0 m (upd H1 D (.lst []))) ∧ ∀ i m H, W i m H →
  (J.stop i H ∧ Q (.ref D) H) ∨ (J.go i H ∧ ∃ Nx : Hp → Prop, (∀ H', Nx H' → ∃ m', m' < m ∧ W (i + 1) m' H') ∧ ∀ x H', J.yld i H x H' → g x (wipe σ vs) H' fun σ2 H2 => wipe σ2 vs = wipe σ vs ∧ tt σ2 H2 fun b H3 =>
    if b = true then te σ2 H3 fun y H4 => ∃ acc, H4 D = some (.lst acc) ∧ acc.length < sizeLine ∧ Nx (upd H4 D (.lst (acc ++ [y]))) else Nx H3)
theorem lc_core {pins : List (Addr × Obj)} {s : Shared} {σ : St} {H : Hp} {Q : VK} {elt tg iter : Expr} {ifs : List Expr} {scope : Scope} {own : List (Str × Nat)} {pos pos' : Pos} {wi : TI} {g : TG} {tt : TT} {te : TE} {use : Option (Value → Sem Unit)} {Qf : Value → Shared → Prop}
    (hc : X.calm = true) (hN : X.N.Nodup) (I : Inv X pins σ H s) (hi : PI X tg iter wi) (ok : BlkOk X.N X.env.scope scope own)
    (hg : ∀ (s : Shared) (H : Hp) (C : Addr) (cl : List (Str × Addr)) (fp : List Addr), PG (X.blk s H scope (compEnvC scope cl C X.env) fp) tg g) (ht : ∀ (s : Shared) (H : Hp) (C : Addr) (cl : List (Str × Addr)) (fp : List Addr), PTs (X.blk s H scope (compEnvC scope cl C X.env) fp) ifs tt)
    (he : ∀ (s : Shared) (H : Hp) (C : Addr) (cl : List (Str × Addr)) (fp : List Addr), PE (X.blk s H scope (compEnvC scope cl C X.env) fp) elt te) (hs : ∀ x, foldedSetIterable iter X.env x = pure x)
    (h : tLc wi g tt te (own.map (·.2)) σ H Q)
    (hRR : ∀ D C s' m H', Inv X pins σ H' s' → Q (.ref D) H' → s'.heap.Ns C m → FpOk X pins H' C → compPost (model X.prog X.w) X.A X.xe use Qf (.ref D) C (.ok .next) s') :
    wpAny (model X.prog X.w) X.A (comprehension (.ListComp elt [⟨tg, iter, ifs, 0⟩] scope pos) scope X.env pos' (newList []) false (eval iter X.env) use) Qf X.xe s := by
  have hfree : ∀ y ∈ scope.names, y.2 = .free → ∃ c, X.env.cells.lookup y.1 = some c := fun y hy e => by
    rcases ok.free y hy e with k | k
    · exact I.ok.has _ (.inl k)
    · exact I.ok.has _ (.inr k)
  refine wpAny_comprehension_free (use := use) rfl hs (closure_ok hfree) ok.kind (fun y hy e => by rw [ok.uniq y hy, e])
    (thn (hi pins s σ H _ I h) fun xv s1 hx => thn hx fun itv s2 h2 => ?_)
  obtain ⟨it, fp, tn, J, H2, e, I2, T, st2, f2, q⟩ := h2
  subst e
  refine wpAny_newObj_type (newEnv_comp ?_) (by show 0 ≤ sizeLine; decide)
  generalize hD : s2.heap.objs.size = D
  have hDn : H2 D = none := I2.hok.fresh (Nat.le_of_eq hD)
  obtain ⟨W, ⟨m0, w0⟩, turn⟩ := q D hDn
  -- the new list
  generalize hs3 : ({ s2 with heap := s2.heap.push { cls := .type "list", data := .seq ([] : List Value).toArray } } : Shared) = s3
  have I3 : Inv X pins σ (upd H2 D (.lst [])) s3 := by
    rw [← hs3]
    refine I2.laid (t' := s2.toks) (fun b o e => Heap.get?_push_of_some _ e) (Nat.le_of_eq hD) ⟨Nat.zero_le _, [], 0, .nil, ?_⟩
    rw [← hD]
    exact Heap.get?_push_size _ rfl
  have h3 : s3.heap = s2.heap.push { cls := .type "list", data := .seq ([] : List Value).toArray } := by rw [← hs3]
  have sz : ∀ b ∈ fp, b < s2.heap.objs.size := fun b hb => by
    obtain ⟨o, e, _⟩ := T.obj _ _ st2 b hb
    exact Heap.lt_size e
  have f3 : ∀ b ∈ fp, FpOk X pins (upd H2 D (.lst [])) b ∧ b < s3.heap.objs.size := fun b hb => by
    have hlt := sz b hb
    refine ⟨⟨?_, (f2 b hb).2⟩, by rw [h3, Heap.size_push]; exact Nat.lt_succ_of_lt hlt⟩
    rw [upd_ne (by rw [← hD]; exact Nat.ne_of_lt hlt)]
    exact (f2 b hb).1
  have st3 : tn 0 s3.heap := T.keep _ _ _ st2 fun b _ o e => by rw [h3]; exact Heap.get?_push_of_some _ e
  have I4 := block_start I3 ok hN f3
  have pg := hg s3 (upd H2 D (.lst [])) s3.heap.objs.size (cellsFrom (s3.heap.objs.size + 1) scope.names (cloFrom X.env.cells scope.names [])) fp
  have pt := ht s3 (upd H2 D (.lst [])) s3.heap.objs.size (cellsFrom (s3.heap.objs.size + 1) scope.names (cloFrom X.env.cells scope.names [])) fp
  have pe := he s3 (upd H2 D (.lst [])) s3.heap.objs.size (cellsFrom (s3.heap.objs.size + 1) scope.names (cloFrom X.env.cells scope.names [])) fp
  show codeAny _ _ (.compStart (.ListComp elt [⟨tg, iter, ifs, 0⟩] scope pos) 0 (.ref it) (.ref D) (compEnvC scope (cellsFrom (s3.heap.objs.size + 1) scope.names (cloFrom X.env.cells scope.names [])) s3.heap.objs.size X.env)) (compPost (model X.prog X.w) X.A X.xe use Qf (.ref D) s3.heap.objs.size) { s3 with heap := pushCells (s3.heap.push { cls := .type "dict", data := .dict #[] }) scope.names }
  have nfp : ∀ b ∈ fp, (upd H2 D (.lst [])) b = none := fun b hb => (f3 b hb).1.1
  generalize hce : compEnvC scope (cellsFrom (s3.heap.objs.size + 1) scope.names (cloFrom X.env.cells scope.names [])) s3.heap.objs.size X.env = ce at I4 pg pt pe ⊢
  have cL : ce.locals = s3.heap.objs.size := by subst hce; rfl
  generalize hH3 : upd H2 D (.lst []) = H3 at I3 I4 pg pt pe w0 nfp f3
  generalize hs4 : ({ s3 with heap := pushCells (s3.heap.push { cls := .type "dict", data := .dict #[] }) scope.names } : Shared) = s4 at I4 ⊢
  have st4 : tn 0 s4.heap := T.keep _ _ _ st3 fun b _ o e => by rw [← hs4]; exact pushCells_keeps _ _ _ _ (Heap.get?_push_of_some _ e)
  have stat : ∀ {σ' : St} {H' : Hp} {s' : Shared}, Inv (X.blk s3 H3 scope ce fp) [] σ' H' s' → (∀ b ∈ fp, H' b = none) → ∀ b ∈ fp, FpOk (X.blk s3 H3 scope ce fp) [] H' b := fun {σ' H' s'} I' hn b hb =>
    ⟨hn b hb, (I'.ok.exf b hb).1, I'.ok.exfs b hb, .inl hb, fun x c e => (I'.ok.exf b hb).2 x c e, fun p hp => absurd (show p ∈ ([] : List (Addr × Obj)) ++ [] from hp) (by simp)⟩
  have loop : codeAny (model X.prog X.w) X.A (.compLoop (.ListComp elt [⟨tg, iter, ifs, 0⟩] scope pos) 0 (.ref it) (.ref D) ce) (compPost (model X.prog X.w) X.A X.xe use Qf (.ref D) s3.heap.objs.size) s4 := by
    refine compLoop_any (fun n s' => ∃ i H', Inv (X.blk s3 H3 scope ce fp) [] (wipe σ (own.map (·.2))) H' s' ∧ tn i s'.heap ∧ (∀ b ∈ fp, H' b = none) ∧ W i n H') ?_ m0 ⟨0, H3, I4, st4, nfp, w0⟩
    rintro n s5 ⟨i, H5, I5, st5, n5, w5⟩
    rcases turn i n H5 w5 with ⟨stop, qq⟩ | ⟨go, Nx, hNx, step⟩
    · have td := T.done (X.blk s3 H3 scope ce fp) rfl rfl rfl hc i [] s5 _ H5 (fun _ _ => False) I5 (stat I5 n5) st5 stop
      refine thnF td fun r s6 ⟨hr, I6⟩ => ?_
      subst hr
      -- back in the def's context
      have I7 : Inv X pins σ H5 s6 := I3.call' (ch := fp) I6.os I6.base I6.hok I6.bare fun b hb => ⟨(f3 b hb).1.2.2.2.1, (f3 b hb).1.2.1, (f3 b hb).1.2.2.2.2.1, (f3 b hb).1.2.2.2.2.2⟩
      have nC : H5 s3.heap.objs.size = none := by
        have z : H5 ce.locals = none := I6.free
        rw [cL] at z
        exact z
      obtain ⟨m, hn, _⟩ := I6.loc
      have hn : s6.heap.Ns ce.locals m := hn
      rw [cL] at hn
      exact hRR D s3.heap.objs.size s6 m H5 I7 qq hn (I3.fpOk (Nat.le_refl _) nC)
    · have ti := T.item (X.blk s3 H3 scope ce fp) rfl rfl rfl hc i [] s5 _ H5 (fun _ _ => False) I5 (stat I5 n5) st5 go
      refine thnF ti fun r s6 ⟨u, hr, h6⟩ => ?_
      subst hr
      refine thnF h6 fun _ s7 ⟨x, H7, I7, r7, y7, st7, n7⟩ => ?_
      have I7' := I7.pinned (stat I7 n7) (T.obj _ _ st7)
      refine thnF (pg _ s7 _ H7 x u _ I7' r7 (step x H7 y7)) fun _ s8 ⟨σ8, H8, I8, hw8, q8⟩ => ?_
      refine thnF (pt _ s8 σ8 H8 _ I8 q8) fun b s9 ⟨H9, I9, q9⟩ => ?_
      -- the turn's end
      have fin : ∀ {s' : Shared} {H' : Hp}, Inv (X.blk s3 H3 scope ce fp) ([] ++ pinsAt fp s7.heap) σ8 H' s' → Nx H' → ∃ m, m < n ∧ ∃ i H', Inv (X.blk s3 H3 scope ce fp) [] (wipe σ (own.map (·.2))) H' s' ∧ tn i s'.heap ∧ (∀ b ∈ fp, H' b = none) ∧ W i m H' := fun {s' H'} I' nx => by
        obtain ⟨m', hm, w'⟩ := hNx H' nx
        have pin' : ∀ b ∈ fp, ∀ o, s7.heap.get? b = some o → s'.heap.get? b = some o ∧ H' b = none := fun b hb o e =>
          let z := I'.pin (b, o) (List.mem_append_right _ (List.mem_append_right _ (mem_pinsAt hb e)))
          ⟨z.1, z.2.1⟩
        have hl : (wipe σ (own.map (·.2))).length = σ8.length := by rw [← hw8, wipe_length]
        refine ⟨m', hm, i + 1, H', (I'.unpinned (pins := [])).weak hl (fun j v e => ?_), T.keep _ _ _ st7 fun b hb o e => (pin' b hb o e).1, fun b hb => ?_, w'⟩
        · rw [← hw8] at e
          exact (wipe_some e).1
        · obtain ⟨o, e, _⟩ := T.obj _ _ st7 b hb
          exact (pin' b hb o e).2
      cases b with
      | false =>
        simp only [Bool.false_eq_true, if_false] at q9 ⊢
        exact fin I9 q9
      | true =>
        simp only [if_true] at q9 ⊢
        refine thnF (pe _ s9 σ8 H9 _ I9 q9) fun z s10 ⟨yv, H10, I10, r10, acc, hD10, hz10, nx⟩ => ?_
        exact app_ok (X := X.blk s3 H3 scope ce fp) I10 hD10 hz10 r10 fun s11 I11 => fin I11 nx
  exact codeAny_compStart_list loop (T.self X.A 0 _ _ _ st4 loop)
/-- as a value -/
theorem pe_lc {elt tg iter : Expr} {ifs : List Expr} {scope : Scope} {own : List (Str × Nat)} {pos : Pos} {wi : TI} {g : TG} {tt : TT} {te : TE} (hc : X.calm = true) (hN : X.N.Nodup) (hi : PI X tg iter wi) (ok : BlkOk X.N X.env.scope scope own)
    (hg : ∀ (s : Shared) (H : Hp) (C : Addr) (cl : List (Str × Addr)) (fp : List Addr), PG (X.blk s H scope (compEnvC scope cl C X.env) fp) tg g) (ht : ∀ (s : Shared) (H : Hp) (C : Addr) (cl : List (Str × Addr)) (fp : List Addr), PTs (X.blk s H scope (compEnvC scope cl C X.env) fp) ifs tt)
    (he : ∀ (s : Shared) (H : Hp) (C : Addr) (cl : List (Str × Addr)) (fp : List Addr), PE (X.blk s H scope (compEnvC scope cl C X.env) fp) elt te) (hs : ∀ x, foldedSetIterable iter X.env x = pure x := by intro _; rfl) :
    PE X (.ListComp elt [⟨tg, iter, ifs, 0⟩] scope pos) (tLc wi g tt te (own.map (·.2))) := by
  intro pins s σ H Q I h
  rw [eval_ListComp]
  refine lc_core hc hN I hi ok hg ht he hs h fun D C s' m H' I' q hn f => ⟨m, hn, fun h'' sb => ?_⟩
  obtain ⟨f0, f1, f2, f3, f4, f5⟩ := f
  exact ⟨.ref D, H', I'.turned (t' := s'.toks) (fun b o hb e => (sb.2 b hb).trans e) f0 f1 f3 f4 f5, rfl, q⟩
/-- name = [..] on one line, the name a local -/
theorem ps_setLc {i : Nat} {y : Str} {py : Pos} {elt tg iter : Expr} {ifs : List Expr} {scope : Scope} {own : List (Str × Nat)} {pos spos : Pos} {wi : TI} {g : TG} {tt : TT} {te : TE} (hc : X.calm = true) (hN : X.N.Nodup) (hy : X.N[i]? = some y) (hyl : X.env.scope.names.lookup y = some .local)
    (hsw : swapsWith (.ListComp elt [⟨tg, iter, ifs, 0⟩] scope pos) (some (.Name y py)) spos.line X.env = pure true) (hi : PI X tg iter wi) (ok : BlkOk X.N X.env.scope scope own)
    (hg : ∀ (s : Shared) (H : Hp) (C : Addr) (cl : List (Str × Addr)) (fp : List Addr), PG (X.blk s H scope (compEnvC scope cl C X.env) fp) tg g) (ht : ∀ (s : Shared) (H : Hp) (C : Addr) (cl : List (Str × Addr)) (fp : List Addr), PTs (X.blk s H scope (compEnvC scope cl C X.env) fp) ifs tt)
    (he : ∀ (s : Shared) (H : Hp) (C : Addr) (cl : List (Str × Addr)) (fp : List Addr), PE (X.blk s H scope (compEnvC scope cl C X.env) fp) elt te) (hs : ∀ x, foldedSetIterable iter X.env x = pure x := by intro _; rfl) :
    PS X (.Assign [.Name y py] (.ListComp elt [⟨tg, iter, ifs, 0⟩] scope pos) spos) (tAsg (tLc wi g tt te (own.map (·.2))) (gName i)) := by
  intro pins s σ H D I h
  rw [exec_Assign_Name_used _ _ _ _ hsw]
  refine wpAny_bind (wpAny_standAt (wpAny_bind ?_))
  show wpAny _ X.A (do let _ ← comprehension (.ListComp elt [⟨tg, iter, ifs, 0⟩] scope pos) scope X.env (firstIterPos [⟨tg, iter, ifs, 0⟩] pos) (newList []) false (eval iter X.env) (some (assign (.Name y py) X.env))) _ _ s
  have h : tLc wi g tt te (own.map (·.2)) σ H (fun x H1 => gName i x σ H1 D.nx) := h
  refine wpAny_bind (thn (lc_core (Qf := fun _ s' => SP X pins D .next s') hc hN I hi ok hg ht he hs h fun L C s' m H' I' q hn f => ?_) fun _ s' hq => wpAny_pure (wpAny_pure hq))
  show wpAny _ _ (assign (.Name y py) X.env (.ref L)) _ _ _
  refine wpAny_assign_Name (store_ok2 (v := V.ref L) I' hN hy (.inl hyl) rfl (fun s2 I2 ⟨a, sb, ha⟩ => ?_) (.inr hyl))
  obtain ⟨f0, f1, f2, f3, f4, f5⟩ := f
  have haC : C ≠ a := by
    rcases ha with z | z
    · rw [z]; exact f1
    · exact fun e => f4 y a z e.symm
  refine ⟨m, hn.sameBut sb haC, fun h3 sb3 => ?_⟩
  exact ⟨_, H', I2.turned (t' := s2.toks) (fun b o hb e => (sb3.2 b hb).trans e) f0 f1 f3 f4 f5, q⟩
theorem sw_true {elt : Expr} {gs : List Comprehension} {scope : Scope} {pos py : Pos} {y : Str} {l : Nat} {env : Env} (hk : env.scope.kind = .function) (hy : env.scope.names.lookup y = some .local) (hl : (py.line == pos.line) = true)
    (ha : (scope.names.any fun (n, k) => n == y && (k == .local || k == .cell)) = false) : swapsWith (.ListComp elt gs scope pos) (some (.Name y py)) l env = pure true := by
  have ky : env.kindOf y = some .local := hy
  have hb : env.blockKind = .function := by unfold Env.blockKind; rw [hk]; rfl
  unfold swapsWith
  simp only [hb, ky, ha, show (Expr.ListComp elt gs scope pos).pos = pos from rfl, show (Expr.Name y py).pos = py from rfl, hl]
  rfl
end

/-! ### the forms one uses -/
/-- over a tuple -/
theorem lc_tup {K : PySem.W.Frag} {a : Addr} {xs : List V} {g : TG} {tt : TT} {te : TE} {vs : List Nat} {σ : St} {H1 : Hp} {D : Addr} {Qd : Hp → Prop} (Pv : Nat → Hp → Prop) (h0 : Pv 0 (upd H1 D (.lst []))) (hl : ∀ i H, i ≤ xs.length → Pv i H → SqT K H a xs)
    (hs : ∀ i x H, xs[i]? = some x → Pv i H → g x (wipe σ vs) H fun σ2 H2 => wipe σ2 vs = wipe σ vs ∧ tt σ2 H2 fun b H3 =>
      if b = true then te σ2 H3 fun y H4 => ∃ acc, H4 D = some (.lst acc) ∧ acc.length < sizeLine ∧ Pv (i + 1) (upd H4 D (.lst (acc ++ [y]))) else Pv (i + 1) H3) (hd : ∀ H, Pv xs.length H → Qd H) :
    ∃ W : Nat → Nat → Hp → Prop, (∃ m, W 0 m (upd H1 D (.lst []))) ∧ ∀ i m H, W i m H →
      ((Itt K a).stop i H ∧ Qd H) ∨ ((Itt K a).go i H ∧ ∃ Nx : Hp → Prop, (∀ H', Nx H' → ∃ m', m' < m ∧ W (i + 1) m' H') ∧ ∀ x H', (Itt K a).yld i H x H' → g x (wipe σ vs) H' fun σ2 H2 => wipe σ2 vs = wipe σ vs ∧ tt σ2 H2 fun b H3 =>
        if b = true then te σ2 H3 fun y H4 => ∃ acc, H4 D = some (.lst acc) ∧ acc.length < sizeLine ∧ Nx (upd H4 D (.lst (acc ++ [y]))) else Nx H3) := by
  refine ⟨fun i m H => m = xs.length - i ∧ i ≤ xs.length ∧ Pv i H, ⟨xs.length, by simp, Nat.zero_le _, h0⟩, ?_⟩
  rintro i m H ⟨rfl, hi, p⟩
  have q := hl i H hi p
  by_cases hlt : i < xs.length
  · refine .inr ⟨⟨xs, xs[i], q, by simp [hlt]⟩, Pv (i + 1), fun H' p' => ⟨xs.length - (i + 1), by omega, rfl, hlt, p'⟩, fun x H' y => ?_⟩
    obtain ⟨e, y⟩ := y
    subst e
    exact hs i x _ (y xs q) p
  · have e : i = xs.length := by omega
    subst e
    exact .inl ⟨⟨xs, q, Nat.le_refl _⟩, hd H p⟩
def blkC (N : List Str) (sc scope : Scope) (own : List (Str × Nat)) : Bool :=
  (match scope.kind with | .function => true | _ => false) && (scope.names.all fun y => decide (scope.names.lookup y.1 = some y.2)) && (own.all fun p => decide (N[p.2]? = some p.1)) &&
    (scope.names.all fun y => match y.2 with
      | .free => (match sc.names.lookup y.1 with | some .cell => true | some .free => true | _ => false)
      | .local => decide (y.1 ∈ own.map (·.1)) || decide (y.1 ∉ N)
      | .cell => decide (y.1 ∈ own.map (·.1)) || decide (y.1 ∉ N)
      | _ => true)
theorem blkOk_by {N : List Str} {sc scope : Scope} {own : List (Str × Nat)} (h : blkC N sc scope own = true) : BlkOk N sc scope own := by
  unfold blkC at h
  simp only [Bool.and_eq_true, List.all_eq_true, decide_eq_true_eq] at h
  obtain ⟨⟨⟨h1, h2⟩, h3⟩, h4⟩ := h
  refine ⟨?_, h2, h3, fun y hy e => ?_, fun y hy e => ?_⟩
  · split at h1
    · assumption
    · cases h1
  · have q := h4 y hy
    simp only [e] at q
    split at q <;> first | exact .inl (by assumption) | exact .inr (by assumption) | cases q
  · have q := h4 y hy
    rcases e with e | e <;> (simp only [e, Bool.or_eq_true, decide_eq_true_eq] at q; exact q)
end L2

namespace L2
open PySem PySem.Spec PyProof.Rows

section
variable {prog : Program} {w : World} {A : Around} {R : Result → Shared → Prop} {s : Shared} {elt t0 i0 t1 i1 : Expr} {ifs0 ifs1 : List Expr} {scope : Scope} {pos : Pos} {it acc : Value} {env : Env}
end

section
variable {X : Cx}
end
end L2

namespace L2
open PySem PySem.Spec PyProof.Rows

/-! ### lists of pairs as tables -/
section
variable {κ : Type} [DecidableEq κ]
end


/-! ### a tracked dict, its keys ints and texts or tuples of these -/
theorem kV_is {P : Program} {w : World} {k : Key} {u : Value} (r : RelV (kV k) u) : (mixKind P w).is k u = true := by
  cases k with
  | inl i => obtain ⟨t, e⟩ := (show ∃ t, u = Value.int i t from r); subst e; exact mixKind_int P w i t
  | inr x => obtain ⟨t, e⟩ := (show ∃ t, u = Value.str x t from r); subst e; exact mixKind_str P w x t
section
variable {P : Program} {w : World} {H : Hp} {h : Heap} {a : Addr}
end

section
variable {X : Cx} {pins : List (Addr × Obj)} {σ : St} {H : Hp} {s : Shared} {a : Addr} {y v : V} {u r : Value} {o : Option V} {A : Around} {E : Value → Shared → Prop}

end

section
variable {X : Cx} {pins : List (Addr × Obj)} {σ : St} {H : Hp} {s : Shared} {a : Addr} {kvs : List (Key × V)} {k : Key} {u : Value} {A : Around} {E : Value → Shared → Prop}
end


/-! ### readings and rules -/
/-- the element of a subscription, not a slice -/
def NoSl (i : Expr) : Prop := ∀ ov iv, subscripted i false ov iv = operate [ov, iv] (getItem ov iv)
theorem subD_of {prog : Program} {w : World} {A : Around} {E : Value → Shared → Prop} {s : Shared} {env : Env} {value slice : Expr} {pos : Pos} {T id : String} {Q : Value → Shared → Prop}
    (hl : typeLookup (.type T) "__getitem__" = pure (some (.builtin id))) (hs : NoSl slice)
    (h : wpAny (model prog w) A (eval value env) (fun o s₁ => wpAny (model prog w) A (eval slice env) (fun i s₂ => s₂.TypeIs o T ∧ wpAny (model prog w) A (getItem o i) Q E s₂) E s₁) E s) :
    wpAny (model prog w) A (eval (.Subscript value slice pos) env) Q E s := by
  refine Subscript_ (wpAny_mono h (fun o s₁ h₁ => wpAny_mono h₁ (fun i s₂ h₂ => ?_) fun _ _ x => x) fun _ _ x => x)
  obtain ⟨hT, h₂⟩ := h₂
  unfold subscriptTail
  refine wpAny_bind ?_
  rw [getitemInPython_of_ne hT.not_modules]
  refine wpAny_bind (wpAny_specialOf hT hl ?_)
  have fin : wpAny (model prog w) A (subscripted slice false o i) (fun r s₃ => wpAny (model prog w) A (letTemporaryGo value o r >>= fun _ => pure r) Q E s₃) E s₂ := by
    rw [hs o i]
    exact wpAny_operating (wpAny_mono h₂ (fun r s₃ h₃ => wpAny_bind (wpAny_letTemporaryGo (wpAny_pure h₃))) fun _ _ x => x)
  first
    | exact wpAny_pure (wpAny_bind fin)
    | exact wpAny_bind (wpAny_pure (wpAny_bind fin))
    | exact wpAny_bind fin

section
variable {X : Cx} {o i e value : Expr} {pos pos' tpos : Pos} {td ty tv : TE}
end


/-! ### displays -/
section
variable {X : Cx} {pos : Pos}
end

/-! ### methods -/
/-- a method call o.m(e) of a built-in, with one argument: what must be seen of the text -/
structure M1 (X : Cx) (o : Expr) (m : Str) (apos : Pos) (e : Expr) (cpos : Pos) : Prop where
  base : attributeBase o m X.env (eval o X.env) = eval o X.env
  few : ((backTo cpos (starEach [e] X.env)).all (fun x => !x.1) && (backToKw cpos (keywordEach [] X.env)).all (fun x => x.1.isSome)
    && decide (([e] : List Expr).length + ([] : List Keyword).length + (if ([] : List Keyword).isEmpty then 0 else 1) < 30)) = true
  line : (apos.endLine == cpos.line) = true
  trees : backTo cpos (starEach [e] X.env) = [(false, eval e X.env)]
structure M2 (X : Cx) (o : Expr) (m : Str) (apos : Pos) (e f : Expr) (cpos : Pos) : Prop where
  base : attributeBase o m X.env (eval o X.env) = eval o X.env
  few : ((backTo cpos (starEach [e, f] X.env)).all (fun x => !x.1) && (backToKw cpos (keywordEach [] X.env)).all (fun x => x.1.isSome)
    && decide (([e, f] : List Expr).length + ([] : List Keyword).length + (if ([] : List Keyword).isEmpty then 0 else 1) < 30)) = true
  line : (apos.endLine == cpos.line) = true
  trees : backTo cpos (starEach [e, f] X.env) = [(false, eval e X.env), (false, eval f X.env)]

section
variable {X : Cx} {pins : List (Addr × Obj)} {σ : St} {H : Hp} {s : Shared} {a : Addr} {y d : V} {u r : Value} {o : Option V} {A : Around} {E : Value → Shared → Prop}
end

section
variable {X : Cx} {o e f : Expr} {apos cpos : Pos} {td ty tx : TE}
end

/-! ### dict(d): a copy -/
section
variable {X : Cx} {pins : List (Addr × Obj)} {σ : St} {H : Hp} {s : Shared} {a : Addr} {kvs : List (Key × V)} {A : Around} {E : Value → Shared → Prop}
end


section
variable {X : Cx} {pins : List (Addr × Obj)} {σ : St} {H : Hp} {s : Shared} {a : Addr} {y : V} {u : Value} {A : Around} {E : Value → Shared → Prop}
end
end L2

namespace L2
open PySem PySem.Spec PyProof.Rows

section
variable {prog : Program} {w : World} {A : Around} {E : Value → Shared → Prop}
end

section
variable {X : Cx}
end
end L2

namespace L2
open PySem PySem.Spec PyProof.Rows

section
variable {X : Cx} {pins : List (Addr × Obj)} {σ : St} {H : Hp} {s : Shared} {h' : Heap}
/-! ### locking a thing while a statement runs -/
end
section
variable {X : Cx}
/-! ### one iterator just laid -/
theorem pi_one {tg : Expr} {pins : List (Addr × Obj)} {σ : St} {H : Hp} {s : Shared} {R : It → Hp → Prop} {J : It} {tn : Nat → Heap → Prop} {tk : Nat} (I : Inv X pins σ H s) (o : Obj)
    (T : Turn X.prog X.w X.K tg J [s.heap.objs.size] s.heap.objs.size tn) (st : tn 0 (s.heap.push o)) (q : R J H) : PIE X pins σ tg R (.ref s.heap.objs.size) { s with heap := s.heap.push o, toks := tk } := by
  refine ⟨s.heap.objs.size, [s.heap.objs.size], tn, J, H, rfl, I.kept fun b ob e => Heap.get?_push_of_some _ e, T, st, fun b hb => ?_, q⟩
  have e : b = s.heap.objs.size := by simpa using hb
  subst e
  exact I.fpOk (Nat.le_refl _) (I.hok.fresh (Nat.le_refl _))
end

/-! ### range with a step -/
/-- lo, lo + c, .. (n of them) -/
def Itc (lo c : Int) (n : Nat) : It := ⟨fun i _ => i < n, fun i H x H' => H' = H ∧ x = .int (lo + (i : Nat) * c), fun i _ => n ≤ i⟩
theorem turn_rangeC {P : Program} {w : World} {K : PySem.W.Frag} {tg : Expr} (it : Addr) (lo c : Int) (n : Nat) : Turn P w K tg (Itc lo c n) [it] it (fun i h => IsRangeIter h it (lo + (i : Nat) * c) ((n : Int) - (i : Nat)) c) where
  mem := by simp
  obj := fun i h st b hb => by
    have e : b = it := by simpa using hb
    subst e
    exact ⟨_, st, fun v z => nomatch z⟩
  keep := fun i h h' st k => k it (by simp) _ st
  item := by
    intro X hP hw hK hc i pins s σ H E I hf st hg
    subst hP hw hK
    obtain ⟨f0, f1, f2, f3, f4, f5⟩ := hf it (by simp)
    have W := Walks.range (prog := X.prog) (w := X.w) (I.ok.hd hc) it lo c n
    refine W.item i s _ _ hg st fun v h' tk hv st' kk => ?_
    obtain ⟨t, rfl⟩ := hv
    have I1 : Inv X pins σ H { s with heap := h', toks := tk } := I.turned (fun b o hb e => kk b o (by simpa using hb) e) f0 f1 f3 f4 f5
    exact ⟨_, rfl, go_of (s := { s with heap := h', toks := tk }) (n := "range_iterator") st' rfl rfl (by decide) ⟨.int (lo + (i : Nat) * c), H, I1, ⟨t, rfl⟩, ⟨rfl, rfl⟩, st', fun b hb => (hf b hb).1⟩⟩
  done := by
    intro X hP hw hK hc i pins s σ H E I hf st hg
    subst hP hw hK
    obtain ⟨f0, f1, f2, f3, f4, f5⟩ := hf it (by simp)
    exact wpAny_pyNext_range_end (I.ok.hd hc) st (by have : n ≤ i := hg; omega) fun h' eb => ⟨rfl, I.turned (t' := s.toks) (fun b o hb e => eb b o hb e) f0 f1 f3 f4 f5⟩
  self := fun A i s Q E st h => wpAny_pyIter_rangeiter st h
/-- range(i, j, c): small bounds, n items -/
def RgC (i j c : Int) (n : Nat) : Prop := c ≠ 0 ∧ c.natAbs < 1073741824 ∧ Builtin.Range.small i j c = true ∧ Builtin.Range.rangeSize i j c = n
def iRng3 (ta : TA) : TI := fun σ H R => ta σ H fun vs H1 => ∃ (i j c : Int) (n : Nat), vs = [.int i, .int j, .int c] ∧ RgC i j c n ∧ R (Itc i c n) H1
section
variable {X : Cx} {tg : Expr}
theorem pi_range3 {a b c : Expr} {ta : TA} {p pos : Pos} (hg : Gl X "range") (hm : X.mg "range" = none) (ha : PA X [a, b, c] ta)
    (hs : starEach [a, b, c] X.env = (false, eval a X.env) :: starEach [b, c] X.env := by rfl) (hpl : (backTo pos (starEach [b, c] X.env)).any (·.1) = false := by rfl) :
    PI X tg (.Call (.Name "range" p) [a, b, c] [] pos) (iRng3 ta) := by
  intro pins s σ H R I h
  refine Call_ (ld_blt I hg hm boot_range (PyProof.Rows.callWith_type1 (thn (ha pos pins s σ H _ I h) fun us s1 ⟨vs, H1, I1, r1, q1⟩ => ?_) hs hpl))
  obtain ⟨i, j, k, n, e, ⟨c0, c1, c2, c3⟩, q⟩ := q1
  subst e
  cases r1 with
  | cons r rr =>
    cases rr with
    | cons r' rr =>
      cases rr with
      | cons r'' rr =>
        cases rr
        obtain ⟨t, rfl⟩ := r
        obtain ⟨t', rfl⟩ := r'
        obtain ⟨t'', rfl⟩ := r''
        refine call_range_3 c0 ?_ (.inl (PyProof.noPylong_small c1))
        refine wpAny_pyIter_range (IsRange.new ..) c2 ?_
        have I2 : Inv X pins σ H1 { s1 with heap := s1.heap.push { cls := .type "range", data := .fields #[.int i t, .int j t', .int k t''] } } := I1.kept (t' := s1.toks) fun b o e => Heap.get?_push_of_some _ e
        refine pi_one (tk := s1.toks) I2 _ (turn_rangeC _ i k n) ?_ q
        have e1 : i + ((0 : Nat) : Int) * k = i := by simp
        have e2 : (n : Int) - ((0 : Nat) : Int) = Builtin.Range.rangeSize i j k := by rw [c3]; simp
        show IsRangeIter _ _ (i + ((0 : Nat) : Int) * k) ((n : Int) - ((0 : Nat) : Int)) k
        rw [e1, e2]
        exact Heap.get?_push_size _ rfl
end
/-- the turns of a step range, for the for loop -/
theorem for_rangeC {lo c : Int} {n : Nat} {g : TG} {tb : TS} {D : Ends} {σ : St} {H : Hp} (Pv : Nat → St → Hp → Prop) (h0 : Pv 0 σ H)
    (hs : ∀ i σ H, i < n → Pv i σ H → g (.int (lo + (i : Nat) * c)) σ H fun σ2 H2 => tb { D with nx := Pv (i + 1), ct := Pv (i + 1), bk := D.nx } σ2 H2) (hd : ∀ σ H, Pv n σ H → D.nx σ H) :
    ∃ W : Nat → Nat → St → Hp → Prop, (∃ m, W 0 m σ H) ∧ ∀ i m σ H, W i m σ H →
      ((Itc lo c n).stop i H ∧ D.nx σ H) ∨ ((Itc lo c n).go i H ∧ ∃ N : St → Hp → Prop, (∀ σ' H', N σ' H' → ∃ m', m' < m ∧ W (i + 1) m' σ' H') ∧ ∀ x H', (Itc lo c n).yld i H x H' → g x σ H' fun σ2 H2 => tb { D with nx := N, ct := N, bk := D.nx } σ2 H2) := by
  refine ⟨fun i m σ H => m = n - i ∧ i ≤ n ∧ Pv i σ H, ⟨n, by simp, Nat.zero_le _, h0⟩, ?_⟩
  rintro i m σ H ⟨rfl, hi, p⟩
  by_cases hlt : i < n
  · refine .inr ⟨hlt, Pv (i + 1), fun σ' H' p' => ⟨n - (i + 1), by omega, rfl, hlt, p'⟩, fun x H' y => ?_⟩
    obtain ⟨e, y⟩ := y
    subst e y
    exact hs i σ _ hlt p
  · have e : i = n := by omega
    subst e
    exact .inl ⟨Nat.le_refl _, hd σ H p⟩

/-! ### reversed(list) -/
section
variable {X : Cx} {tg : Expr}
end

/-! ### a str -/
def Its (x : Str) : It := ⟨fun i _ => i < x.cps.size, fun i H v H' => H' = H ∧ ∃ c, x.cps[i]? = some c ∧ v = .str ⟨#[c]⟩, fun i _ => x.cps.size ≤ i⟩
theorem turn_str {P : Program} {w : World} {K : PySem.W.Frag} {tg : Expr} (it : Addr) (x : Str) (t : Tok) (ty : String) (hty : ty = "str_ascii_iterator" ∨ ty = "str_iterator") :
    Turn P w K tg (Its x) [it] it (fun i h => h.IsStrIter it ty x t i) where
  mem := by simp
  obj := fun i h st b hb => by
    have e : b = it := by simpa using hb
    subst e
    obtain ⟨o, e, c, d⟩ := st
    exact ⟨o, e, fun v z => by rw [d] at z; cases z⟩
  keep := fun i h h' st k => let ⟨o, ho, r⟩ := st; ⟨o, k it (by simp) o ho, r⟩
  item := by
    intro X hP hw hK hc i pins s σ H E I hf st hg
    subst hP hw hK
    obtain ⟨f0, f1, f2, f3, f4, f5⟩ := hf it (by simp)
    have W : Walks X.prog X.w X.A it [it] [it] x.cps.size (SignAt x) (fun i h => h.IsStrIter it ty x t i) := by
      rcases hty with e | e
      · rw [e]; exact Walks.strAscii (I.ok.hd hc) it x t
      · rw [e]; exact Walks.strWide (I.ok.hd hc) it x t
    have hno : ["enumerate", "zip", "dict_itemiterator", "dict_reverseitemiterator", "odict_iterator", "itertools.zip_longest", "itertools.pairwise"].contains ty = false := by
      rcases hty with e | e
      · rw [e]; decide
      · rw [e]; decide
    refine W.item i s _ _ hg st fun v h' tk hv st' kk => ?_
    obtain ⟨c, u, hcx, rfl⟩ := hv
    have I1 : Inv X pins σ H { s with heap := h', toks := tk } := I.turned (fun b o hb e => kk b o (by simpa using hb) e) f0 f1 f3 f4 f5
    obtain ⟨oi, e, cc, dd⟩ := id st'
    exact ⟨_, rfl, go_of (s := { s with heap := h', toks := tk }) e cc dd hno ⟨.str ⟨#[c]⟩, H, I1, ⟨u, rfl⟩, ⟨rfl, c, hcx, rfl⟩, st', fun b hb => (hf b hb).1⟩⟩
  done := by
    intro X hP hw hK hc i pins s σ H E I hf st hg
    subst hP hw hK
    obtain ⟨f0, f1, f2, f3, f4, f5⟩ := hf it (by simp)
    have hx : x.cps[i]? = none := Array.getElem?_eq_none hg
    rcases hty with e | e
    · rw [e] at st
      exact wpAny_pyNext_ascii_end (I.ok.hd hc) st hx fun h' eb => ⟨rfl, I.turned (t' := s.toks) (fun b o hb e => eb b o hb e) f0 f1 f3 f4 f5⟩
    · rw [e] at st
      exact wpAny_pyNext_wide_end (I.ok.hd hc) st hx fun h' eb => ⟨rfl, I.turned (t' := s.toks) (fun b o hb e => eb b o hb e) f0 f1 f3 f4 f5⟩
  self := fun A i s Q E st h => by
    rcases hty with e | e
    · rw [e] at st; exact wpAny_pyIter_striter_ascii st h
    · rw [e] at st; exact wpAny_pyIter_striter_wide st h
def iStr (te : TE) : TI := fun σ H R => te σ H fun v H1 => ∃ x, v = .str x ∧ R (Its x) H1
theorem pi_str {X : Cx} {tg e : Expr} {te : TE} (he : PE X e te) : PI X tg e (iStr te) := by
  intro pins s σ H R I h
  refine thn (he pins s σ H _ I h) fun v s1 ⟨y, H1, I1, r1, x, ex, q⟩ => ?_
  subst ex
  obtain ⟨t, rfl⟩ := r1
  cases ha : x.cps.all (· < 128)
  · exact wpAny_pyIter_wide ha (pi_one (tk := s1.toks) I1 _ (turn_str _ x t "str_iterator" (.inr rfl)) ⟨_, Heap.get?_push_size _ rfl, rfl, rfl⟩ q)
  · exact wpAny_pyIter_ascii ha (pi_one (tk := s1.toks) I1 _ (turn_str _ x t "str_ascii_iterator" (.inl rfl)) ⟨_, Heap.get?_push_size _ rfl, rfl, rfl⟩ q)

/-! ### a dict's keys: any dict's entries -/
section
variable {prog : Program} {w : World} {A : Around} {E : Value → Shared → Prop} {s : Shared}
end

/-! ### a locked dict -/
section
variable {X : Cx} {pins : List (Addr × Obj)} {σ : St} {H : Hp} {s : Shared} {d : Addr} {o : Obj}
end

section
variable {P : Program} {w : World} {K : PySem.W.Frag} {tg : Expr} {d : Addr} {o : Obj} {es : Array DictEntry} {ep : Nat}
end

/-! ### for k in d, d.keys(), d.values(), d.items() -/
section
variable {X : Cx} {tg e : Expr} {td : TE} {apos cpos : Pos}
end

/-! ### enumerate(list) -/
/-! ### zip(list, list) -/
end L2

section 
namespace Bits
open PySem PyProof.Rows

end Bits
end 

section 
namespace TL
open PySem PySem.Builtin PySem.Builtin.Str PySem.StrLaws

abbrev tl (x : Str) : List Nat := x.cps.toList
theorem tl_append (x y : Str) : tl (x ++ y) = tl x ++ tl y := by
  show (x ++ y).cps.toList = _
  rw [Str.cps_append, Array.toList_append]
/-! ### the list functions -/
/-! ### the model's split and partition are these -/
/-! ### computing spl and par -/
/-- joined lists -/
def joinL (S : List Nat) : List (List Nat) → List Nat
  | [] => []
  | [p] => p
  | p :: q :: r => p ++ (S ++ joinL S (q :: r))
theorem tl_join (y : Str) : ∀ parts : List Str, tl (Str.join y parts) = joinL (tl y) (parts.map tl)
  | [] => rfl
  | [_] => rfl
  | x :: z :: r => by
    show tl (x ++ y ++ Str.join y (z :: r)) = tl x ++ (tl y ++ joinL (tl y) ((z :: r).map tl))
    rw [tl_append, tl_append, tl_join y (z :: r), List.append_assoc]
theorem join_eq (y : Str) (parts : List Str) : Txt.join y parts = Str.join y parts := glued_eq_join y parts
/-! ### digits -/
/-- the signs of a number -/
def numL (n : Nat) : List Nat := (Nat.toDigits 10 n).map Char.toNat
theorem tl_num (n : Nat) : tl (Str.ofString (toString ((n : Nat) : Int))) = numL n := PySem.W.KIN.signs_num n
/-! ### words: x.split() -/
end TL
end 

namespace L2
open PySem PySem.Spec PyProof.Rows

theorem strs_of_vals : ∀ {ys : List Str} {us : List Value}, Vals (ys.map V.str) us → StrsAre us ys
  | [], _, .nil => .nil
  | y :: ys, _, .cons r t => by
    obtain ⟨k, rfl⟩ := r
    exact .cons y k (strs_of_vals t)

section
variable {X : Cx} {pins : List (Addr × Obj)} {σ : St} {H : Hp} {s : Shared} {Q : VK}
end

section
variable {X : Cx}

/-- sep.join(a list | a tuple of texts) -/
theorem mt_join : MtR X "str.join" (fun x xs H Q => ∃ a p, ∃ ys : List Str, x = .str a ∧ xs = [.ref p] ∧ (SqL X.K H p (ys.map V.str) ∨ SqT X.K H p (ys.map V.str)) ∧
    (ys.map (·.length)).sum + ys.length * a.length ≤ 16777216 ∧ Q (.str (Txt.join a ys)) H) := by
  intro pins s σ H x xs v us Q I rx rs h
  obtain ⟨a, p, ys, rfl, rfl, hp, hz, h⟩ := h
  obtain ⟨t, rfl⟩ := rx
  cases rs with
  | cons r1 rs =>
    cases rs
    cases r1
    rcases hp with hp | hp
    · obtain ⟨its, r, ⟨o, n, ho, hc, _, hd⟩, _⟩ := I.list hp
      exact PyProof.Rows.join_list (items := its.toArray) ⟨o, ho, hc, n, hd⟩ (by rw [List.toList_toArray]; exact strs_of_vals r) hz fun t' k => ⟨.str _, H, I.tok k, ⟨t', rfl⟩, h⟩
    · obtain ⟨its, r, ht, _⟩ := I.tuple hp
      exact PyProof.Rows.join_tuple (items := its.toArray) ht (by rw [List.toList_toArray]; exact strs_of_vals r) hz fun t' k => ⟨.str _, H, I.tok k, ⟨t', rfl⟩, h⟩

/-! ### of a text alone -/
/-! ### of a text and a text -/
end

section
variable {X : Cx} {o e : Expr} {to te : TE}
def tM1 (r : V → List V → Hp → VK → Prop) (to te : TE) : TE := fun σ H Q => to σ H fun x H1 => (∃ a, x = .str a) ∧ te σ H1 fun y H2 => r x [y] H2 Q
theorem pe_m1 {id : String} {name : Str} {apos pos : Pos} {r : V → List V → Hp → VK → Prop} (slot : Slot "str" name id) (ty : typeOf (.builtin id) = pure (.type "method_descriptor")) (rule : MtR X id r) (ho : PE X o to) (he : PE X e te)
    (hs : starEach [e] X.env = [(false, eval e X.env)] := by rfl) (hbase : attributeBase o name X.env (eval o X.env) = eval o X.env := by rfl) (hline : (apos.endLine == pos.line) = true := by rfl) :
    PE X (.Call (.Attribute o name apos) [e] [] pos) (tM1 r to te) := by
  intro pins s σ H Q I h
  refine PySem.Call_method1 hbase hs hline (thn (ho pins s σ H _ I h) fun v s1 ⟨x, H1, I1, r1, q1⟩ => ?_)
  obtain ⟨⟨a, rfl⟩, q1⟩ := q1
  obtain ⟨t, rfl⟩ := _root_.id r1
  refine ⟨"str", _, F.plainAttrs_str, slot, ty, typeIs_str _ _ _, (fun _ e => nomatch e), Calls.callWith_builtin rfl (Calls.evalArgs_plain (Calls.spliced_cons ?_))⟩
  exact thn (he pins s1 σ H1 _ I1 q1) fun u s2 ⟨y, H2, I2, r2, q2⟩ => Calls.spliced_nil (rule pins s2 σ H2 _ [y] _ [u] Q I2 r1 (.cons r2 .nil) q2)

theorem pe_join {apos pos : Pos} (ho : PE X o to) (he : PE X e te) (hs : starEach [e] X.env = [(false, eval e X.env)] := by rfl) (hbase : attributeBase o "join" X.env (eval o X.env) = eval o X.env := by rfl) (hline : (apos.endLine == pos.line) = true := by rfl) :
    PE X (.Call (.Attribute o "join" apos) [e] [] pos) (tM1 (fun x xs H Q => ∃ a p, ∃ ys : List Str, x = .str a ∧ xs = [.ref p] ∧ (SqL X.K H p (ys.map V.str) ∨ SqT X.K H p (ys.map V.str)) ∧
      (ys.map (·.length)).sum + ys.length * a.length ≤ 16777216 ∧ Q (.str (Txt.join a ys)) H) to te) :=
  pe_m1 F.slot_str_join F.type_str_join mt_join ho he hs hbase hline
end
end L2

namespace L2
open PySem PySem.Spec PyProof.Rows

section
variable {X : Cx}
end

/-! ### slices of a text -/
end L2

namespace Att
open PySem PySem.W PySem.Calls PyProof.Rows

/-! ### the script -/
/-! ### the attachment: holds_open's last premise (the goal 'hc' behind k_head) from a wpAny of the law's body -/
/-! ### rules over ANY heap (no ledger) from facts about the written part K: the library's own take a ledger (News) for what they write -/
section
variable {prog : Program} {w : World} {A : Around} {E : Value → Shared → Prop} {s : Shared} {K : Frag}

/-! the whole heap as the ledger: makes every rule that writes through a ledger a rule over any heap -/
end
end Att

namespace L2
open PySem PySem.Spec PyProof.Rows

end L2

namespace L2
open PySem PySem.Spec PyProof.Rows

end L2

/- THE LAST THEOREM (shape; LID, My.* are yours):
   My.Adr: a structure of the addresses that your layer names (classes, functions); My.Txt K t: a structure (Prop) of the equations over K;
   My.txt_mk : {K} {implicit addresses ..} (e1 : nsIn K mainGlobals "law" = some (some (.ref f))) (e2 : K.lookup f = some ⟨oc, od, .func (fnOf "law" "law" params body scope dV kV doc pm an cdv ct), sl⟩) (e3 : codeIn K cdv "law" = true) .. : ∃ t, My.Txt K t

set_option maxRecDepth 100000 in
set_option maxHeartbeats 0 in
theorem PySem.Challenge.cw_LID_holds : PySem.Challenge.rw_LID.Holds := by
  w_on; o_law; k_head; (case hw => w_witness2)
  k_fill
  refine L2.walk_of (l := PySem.Challenge.rw_LID) (n := 63) (k := 40) (x := "script") (CX := fun w => ..) (sp := fun _ => My.sp_law) rfl (by decide) rfl ⟨rfl, by decide, by decide⟩ (fun w h Y => PySem.W.kIn_of Y) ?F ?S ?C
  case F =>
    intro w mg fa h KX G hmg
    have T : ∃ t, My.Txt (L2.KOf KX) t := by
      dsimp only [L2.KOf]                          -- K must stand as «<heap const> w.params» for k_is
      refine' My.txt_mk ?e1 ?e2 ?e3 ..
      (case e1 => PySem.W.k_is)                    -- in the order: a name -> its address -> its object -> its parts
      (case e2 => PySem.W.k_is)
      ..
    obtain ⟨t, T⟩ := T
    have e0 := hmg.symm.trans (PySem.W.mg_of KX G T.law)
    cases e0                                       -- fa is the law's own address
    exact ⟨_, fun s u => .of_eq rfl, fun base kb nb => My.law_fn T kb nb⟩     -- if «.of_eq rfl» comes too early: refine' ⟨_, ?b, fun base kb nb => My.law_fn T kb nb⟩; exact fun s u => .of_eq rfl
  case S => exact fun w H a ns hl hO hS => ..
  case C => exact ..
(the tactic k_is has no namespace: write k_is) -/

/-! SHORT WORDS over the layer: a def of the text, its body, what a loop and a test want. -/
namespace L2
open PySem PySem.Spec PyProof.Rows

/-! ### the text by places -/
/-- the j-th statement of a class's body -/
def inClass (s : Stmt) (j : Nat) : Stmt := match s with
  | .ClassDef _ _ _ body _ _ _ _ _ _ _ => body.getD j (.Pass ⟨0, 0, 0, 0⟩)
  | _ => .Pass ⟨0, 0, 0, 0⟩
def defArgs (s : Stmt) : Arguments := match s with
  | .FunctionDef _ a _ _ _ _ _ _ _ _ => a
  | _ => { posonlyargs := [], args := [], vararg := none, kwonlyargs := [], kw_defaults := [], kwarg := none, defaults := [] }
def defBody (s : Stmt) : List Stmt := match s with
  | .FunctionDef _ _ b _ _ _ _ _ _ _ => b
  | _ => []
def defScope (s : Stmt) : Scope := match s with
  | .FunctionDef _ _ _ _ _ _ sc _ _ _ => sc
  | _ => { kind := .function, names := [], isGenerator := false, isCoroutine := false }

/-! ### no exception leaves a def -/
abbrev CX0 : CXT := fun _ _ _ _ _ _ => False
abbrev E0 : XK := fun _ _ _ => False
theorem pass0 {X : Cx} : Passes CX0 X E0 := fun _ _ _ _ _ _ _ h => h.elim

/-! ### a def (or method) of the text as it stands behind the top -/
structure Fun (K : PySem.W.Frag) (x qual : Str) (st : Stmt) (f : Addr) (fd : FuncData) : Prop where
  ex : ∃ (oc : Value) (od : Option Addr) (kV doc pm : Value) (an : Option Addr) (cdv ct : Value) (osl : Array (Option Value)),
    fd = PySem.W.fnOf x qual (defArgs st) (defBody st) (defScope st) .none kV doc pm an cdv ct ∧ K.lookup f = some ⟨oc, od, .func fd, osl⟩ ∧ PySem.W.codeIn K cdv qual = true
  kp : PySem.W.keepIn K (.ref f) = true
section
variable {P : Program} {w : World} {K : PySem.W.Frag} {mg : Str → Option Value} {base : Heap}
/-- THE RULE for a def: its body as a term of rules, and the reading of that term -/
theorem Fun.ok {x qual : Str} {st : Stmt} {f : Addr} {fd : FuncData} {N ps : List Str} {k : Nat} {sp : Sp} (F : Fun K x qual st f fd) (S : FnScope N ps (defScope st)) (len : ∀ vs H Q E, sp vs H Q E → vs.length = ps.length)
    (hbody : ∀ (cdv : Value) (A : Around) (outer : List Env) (s : Shared) (H : Hp) (vs : List V) (Q : VK) (E : XK), Room k (A.deeper (envOfC qual (defScope st) s.heap.objs.size f cdv)) → sp vs H Q E →
      ∃ t, PSs (cxOf CX0 P w K mg base N qual (defScope st) f cdv A outer s H E).nox (defBody st) t ∧ t { nx := fun _ H' => Q .non H', rt := Q } (start N vs) H) : FnOk P w K mg base CX0 (k + 1) f fd ps sp := by
  obtain ⟨oc, od, kV, doc, pm, an, cdv, ct, osl, rfl, lk, hcd⟩ := F.ex
  refine fn_of lk hcd S len fun A outer s H vs Q E hr hsp => ?_
  obtain ⟨t, h, q⟩ := hbody cdv A outer s H vs Q E hr hsp
  exact ⟨t, h.nox, q⟩
/-- how its arguments bind (no defaults): h is «fun _ _ _ _ _ _ us hl => match us, hl with | [_, _], _ => rfl», one _ a parameter -/
theorem Fun.binds {x qual : Str} {st : Stmt} {f : Addr} {fd : FuncData} {ps : List Str} (F : Fun K x qual st f fd)
    (h : ∀ (kV doc pm : Value) (an : Option Addr) (cdv ct : Value) (us : List Value), us.length = ps.length → bindArgs (PySem.W.fnOf x qual (defArgs st) (defBody st) (defScope st) .none kV doc pm an cdv ct) ⟨us, []⟩ = pure (ps.zip us)) : Binds K fd ps [] := by
  obtain ⟨oc, od, kV, doc, pm, an, cdv, ct, osl, rfl, lk, hcd⟩ := F.ex
  exact .all (h kV doc pm an cdv ct)
theorem fun_mk {x qual : Str} {st : Stmt} {f : Addr} {oc : Value} {od an : Option Addr} {osl : Array (Option Value)} {kV doc pm cdv ct : Value} (l : K.lookup f = some ⟨oc, od, .func (PySem.W.fnOf x qual (defArgs st) (defBody st) (defScope st) .none kV doc pm an cdv ct), osl⟩)
    (c : PySem.W.codeIn K cdv qual = true) (k : PySem.W.keepIn K (.ref f) = true) : Fun K x qual st f (PySem.W.fnOf x qual (defArgs st) (defBody st) (defScope st) .none kV doc pm an cdv ct) := ⟨⟨oc, od, kV, doc, pm, an, cdv, ct, osl, rfl, l, c⟩, k⟩
end
/-! ### expressions in short: the name that stands in the i-th slot -/
section
variable {X : Cx}
theorem pv (i : Nat) {x : Str} {pos : Pos} (hN : X.N[i]? = some x := by rfl) (hv : Vis X.env.scope x := by first | exact Or.inl rfl | exact Or.inr (Or.inl rfl) | exact Or.inr (Or.inr rfl)) (hd : (x == ("__debug__" : Str)) = false := by decide)
    (hcd : (x == ("__classdict__" : Str)) = false := by decide) : PE X (.Name x pos) (tVar i) := pe_var hN hv hd hcd
end

/-! ### tests -/
theorem iteF {A B : Prop} (h : B) : if false = true then A else B := by
  rw [if_neg Bool.false_ne_true]
  exact h
theorem iteT {A B : Prop} (h : A) : if true = true then A else B := by
  rw [if_pos rfl]
  exact h
theorem ite2 {c A B : Prop} [Decidable c] (h1 : c → A) (h2 : ¬ c → B) : if c then A else B := by
  by_cases h : c
  · rw [if_pos h]
    exact h1 h
  · rw [if_neg h]
    exact h2 h
/-! ### heaps -/
/-- all that was tracked is as it was -/
def Same (H H' : Hp) : Prop := ∀ b o, H b = some o → H' b = some o
theorem Same.refl (H : Hp) : Same H H := fun _ _ h => h
theorem Same.trans {H H1 H2 : Hp} (a : Same H H1) (b : Same H1 H2) : Same H H2 := fun c o h => b c o (a c o h)
theorem Same.free {H H' : Hp} (e : Same H H') {l : Addr} (h : H' l = Option.none) : H l = Option.none := by
  cases q : H l with
  | none => rfl
  | some o =>
    rw [e l o q] at h
    cases h
theorem Same.seq {K : PySem.W.Frag} {H H' : Hp} {a : Addr} {xs : List V} (e : Same H H') (h : SqL K H a xs) : SqL K H' a xs := by
  rcases h with (h | ⟨o, h⟩) | h
  · exact .inl (.inl (e _ _ h))
  · exact .inl (.inr ⟨o, e _ _ h⟩)
  · exact .inr h

/-! ### a dict's pairs: keys that differ -/
section
variable {κ : Type} [DecidableEq κ]
end
/-! ### lists -/
theorem at_of {xs : List V} {z : Int} {j : Nat} {v : V} (e : z = (j : Int)) (h : xs[j]? = some v) : atI xs z = some v := by
  rw [e]
  exact atI_nat h
/-- a new instance and its __init__ leave all that was tracked as it was -/
theorem Same.made {H H1 : Hp} {x dx C : Addr} (nx : H x = Option.none) (nd : H dx = Option.none) (k : ∀ b o, (upd (upd H dx (.own x)) x (.ins C dx [])) b = some o → b ≠ x → H1 b = some o) : Same H H1 := fun b o e =>
  k b o (by rw [upd_ne (ne_of_none e nx), upd_ne (ne_of_none e nd)]; exact e) (ne_of_none e nx)
end L2

section
set_option Elab.async false
set_option linter.all false
set_option maxRecDepth 100000
set_option maxHeartbeats 2000000
namespace L2
open PySem PySem.Spec PyProof.Rows
open PySem.W (WData Codec OpenSpec Well WellAll ReadsW ReadsAllW)
/-! ### an answer as data -/
mutual
/-- x stands for the datum d, lists and tuples all the way -/
inductive Dw (K : PySem.W.Frag) (H : Hp) : V → WData → Prop
  | non : Dw K H .non .none
  | bl (b : Bool) : Dw K H (.bl b) (.bool b)
  | int (i : Int) : Dw K H (.int i) (.int i)
  | str (x : Str) : Dw K H (.str x) (.str x)
  | byt (b : Array UInt8) : Dw K H (.byt b) (.bytes b.toList)
  | lst {a : Addr} {xs : List V} {ds : List WData} : SqL K H a xs → DwAll K H xs ds → Dw K H (.ref a) (.list ds)
  | tup {a : Addr} {xs : List V} {ds : List WData} : SqT K H a xs → DwAll K H xs ds → Dw K H (.ref a) (.tuple ds)
inductive DwAll (K : PySem.W.Frag) (H : Hp) : List V → List WData → Prop
  | nil : DwAll K H [] []
  | cons {v : V} {vs : List V} {d : WData} {ds : List WData} : Dw K H v d → DwAll K H vs ds → DwAll K H (v :: vs) (d :: ds)
end
theorem dw_ints {K : PySem.W.Frag} {H : Hp} : ∀ ns : List Int, DwAll K H (ns.map V.int) (ns.map WData.int)
  | [] => .nil
  | n :: r => .cons (.int n) (dw_ints r)
theorem ints_dw {K : PySem.W.Frag} {H : Hp} : ∀ (ns : List Int) (xs : List V), DwAll K H xs (ns.map WData.int) → xs = ns.map V.int
  | [], xs, h => by
    cases h
    rfl
  | n :: r, xs, h => by
    cases h with
    | cons h1 h2 =>
      cases h1
      rw [ints_dw r _ h2] <;> rfl
section
variable {P : Program} {w : World} {K : PySem.W.Frag} {H : Hp} {h : Heap} {R : PySem.W.WRecords} {cl : Str → Option Addr}
theorem sqL_at {a : Addr} {xs : List V} (hok : HOk P w H h) (KX : K.In h) (q : SqL K H a xs) : ∃ (its : List Value) (o : Obj) (n : Nat), Vals xs its ∧ h.get? a = some o ∧ o.cls = .type "list" ∧ o.data = .seq its.toArray n := by
  rcases q with q | ⟨o, its, n, e, hc, _, hd, _, hv⟩
  · obtain ⟨_, its, n, hv, e⟩ := (show ObjOk P w H h a (.lst xs) from q.ok hok)
    exact ⟨its, _, n, hv, e, rfl, rfl⟩
  · exact ⟨its.toList, o, n, hv, KX _ _ e, hc, by simp [hd]⟩
theorem sqT_at {a : Addr} {xs : List V} (hok : HOk P w H h) (KX : K.In h) (q : SqT K H a xs) : ∃ (its : List Value) (o : Obj) (n : Nat), Vals xs its ∧ h.get? a = some o ∧ o.cls = .type "tuple" ∧ o.data = .seq its.toArray n := by
  rcases q with q | ⟨o, its, n, e, hc, hd, _, hv⟩
  · obtain ⟨_, its, hv, o, e, hc, n, hd⟩ := (show ObjOk P w H h a (.tup xs) from q.ok hok)
    exact ⟨its, o, n, hv, e, hc, hd⟩
  · exact ⟨its.toList, o, n, hv, KX _ _ e, hc, by simp [hd]⟩
mutual
theorem Dw.reads (hok : HOk P w H h) (KX : K.In h) : ∀ (d : WData) (v : V) (u : Value), Dw K H v d → RelV v u → ∃ as, ReadsW R cl h u d as
  | .none, _, _, x, r => by
    cases x
    cases r
    exact ⟨_, ReadsW.none⟩
  | .bool b, _, _, x, r => by
    cases x
    cases r
    exact ⟨_, ReadsW.bool b⟩
  | .int i, _, _, x, r => by
    cases x
    obtain ⟨t, rfl⟩ := r
    exact ⟨_, ReadsW.int i t⟩
  | .str s, _, _, x, r => by
    cases x
    obtain ⟨t, rfl⟩ := r
    exact ⟨_, ReadsW.str s t⟩
  | .bytes b, _, _, x, r => by
    cases x
    obtain ⟨t, rfl⟩ := r
    exact ⟨_, ReadsW.bytes _ t⟩
  | .list ds, _, _, x, r => by
    cases x with
    | lst hs ha =>
      cases r
      obtain ⟨its, o, n, rv, ho, hc, hd⟩ := sqL_at hok KX hs
      obtain ⟨as, hr⟩ := Dw.readsAll hok KX ds _ its ha rv
      exact ⟨_, ReadsW.list ho hc hd hr⟩
  | .tuple ds, _, _, x, r => by
    cases x with
    | tup hs ha =>
      cases r
      obtain ⟨its, o, n, rv, ho, hc, hd⟩ := sqT_at hok KX hs
      obtain ⟨as, hr⟩ := Dw.readsAll hok KX ds _ its ha rv
      exact ⟨_, ReadsW.tuple ho hc hd hr⟩
  | .float _, _, _, x, _ => by cases x
  | .dict _, _, _, x, _ => by cases x
  | .bytearray _, _, _, x, _ => by cases x
  | .set _, _, _, x, _ => by cases x
  | .frozenset _, _, _, x, _ => by cases x
  | .obj _ _, _, _, x, _ => by cases x
theorem Dw.readsAll (hok : HOk P w H h) (KX : K.In h) : ∀ (ds : List WData) (vs : List V) (us : List Value), DwAll K H vs ds → Vals vs us → ∃ as, ReadsAllW R cl h us ds as
  | [], _, _, x, r => by
    cases x
    cases r
    exact ⟨_, ReadsAllW.nil⟩
  | d :: ds, _, _, x, r => by
    cases x with
    | cons h1 h2 =>
      cases r with
      | cons r1 r2 =>
        obtain ⟨as, q1⟩ := Dw.reads hok KX d _ _ h1 r1
        obtain ⟨bs, q2⟩ := Dw.readsAll hok KX ds _ _ h2 r2
        exact ⟨_, ReadsAllW.cons q1 q2⟩
end
end
/-! ### the arguments -/
mutual
/-- data that a codec tells -/
def plW : WData → Bool
  | .none => true
  | .bool _ => true
  | .int _ => true
  | .str _ => true
  | .bytes _ => true
  | .list xs => plWs xs
  | .tuple xs => plWs xs
  | _ => false
def plWs : List WData → Bool
  | [] => true
  | x :: r => plW x && plWs r
end
theorem plWs_map {α : Type} {f : α → WData} (h : ∀ a, plW (f a) = true) : ∀ l : List α, plWs (l.map f) = true
  | [] => rfl
  | x :: r => by
    show (plW (f x) && plWs (r.map f)) = true
    rw [h x, plWs_map h r] <;> rfl
theorem pl_enc : ∀ (c : Codec) (a : c.denote), plW (c.enc a) = true
  | .unit, _ => rfl
  | .bool, _ => rfl
  | .int _ _, _ => rfl
  | .nat _ _, _ => rfl
  | .u8, _ => rfl
  | .bytes _ _, _ => rfl
  | .text _ _ _ _, _ => rfl
  | .list _ _ c, a => plWs_map (fun x => pl_enc c x) a
  | .pair c d, a => by
    show (plW (c.enc a.1) && (plW (d.enc a.2) && true)) = true
    rw [pl_enc c a.1, pl_enc d a.2] <;> rfl
  | .triple c d e, a => by
    show (plW (c.enc a.1) && (plW (d.enc a.2.1) && (plW (e.enc a.2.2) && true))) = true
    rw [pl_enc c a.1, pl_enc d a.2.1, pl_enc e a.2.2] <;> rfl
  | .option c, none => rfl
  | .option c, some x => pl_enc c x
theorem pl_encAll : ∀ (cs : List Codec) (a : Codec.denoteAll cs), plWs (Codec.encAll cs a) = true
  | [], _ => rfl
  | c :: cs, a => by
    show (plW (c.enc a.1) && plWs (Codec.encAll cs a.2)) = true
    rw [pl_enc c a.1, pl_encAll cs a.2] <;> rfl
theorem weight_mem : ∀ {xs : List WData} {d : WData}, d ∈ xs → d.weight ≤ WData.weightAll xs
  | [], d, h => absurd h (by simp)
  | x :: r, d, h => by
    show d.weight ≤ x.weight + 1 + WData.weightAll r
    rcases List.mem_cons.mp h with e | m
    · rw [e]
      omega
    · have z := weight_mem m
      omega
def toV : Value → V
  | .none => .non
  | .bool b => .bl b
  | .int i _ => .int i
  | .str x _ => .str x
  | .bytes b _ => .byt b
  | .ref a => .ref a
  | _ => .non
/-- a value of the arguments, its objects among A -/
def OkU (A : List Addr) : Value → Prop
  | .none => True
  | .bool _ => True
  | .int _ _ => True
  | .str _ _ => True
  | .bytes _ _ => True
  | .ref a => a ∈ A
  | _ => False
theorem OkU.mono {A B : List Addr} (h : ∀ a ∈ A, a ∈ B) : ∀ {u : Value}, OkU A u → OkU B u := fun {u} x => by
  cases u with
  | ref a => exact h a x
  | none => trivial
  | bool b => trivial
  | int i t => trivial
  | str s t => trivial
  | bytes b t => trivial
  | _ => exact False.elim x
theorem relV_toV {A : List Addr} {u : Value} (x : OkU A u) : RelV (toV u) u := by
  cases u with
  | ref a => rfl
  | none => rfl
  | bool b => rfl
  | int i t => exact ⟨t, rfl⟩
  | str s t => exact ⟨t, rfl⟩
  | bytes b t => exact ⟨t, rfl⟩
  | _ => exact False.elim x
theorem vals_toV {A : List Addr} : ∀ {vs : List Value}, (∀ u ∈ vs, OkU A u) → Vals (vs.map toV) vs
  | [], _ => .nil
  | u :: r, h => .cons (relV_toV (h u (List.mem_cons_self ..))) (vals_toV fun x hx => h x (List.mem_cons_of_mem _ hx))
/-- an object of the arguments -/
def ArgOb (h : Heap) (A : List Addr) (a : Addr) : Prop := ∃ vs : List Value, vs.length ≤ sizeLine ∧ (∀ u ∈ vs, OkU A u) ∧
  (h.get? a = some { cls := .type "list", data := .seq vs.toArray } ∨ h.get? a = some { cls := .type "tuple", data := .seq vs.toArray })
theorem ArgOb.mono {h : Heap} {A B : List Addr} {a : Addr} (k : ∀ a ∈ A, a ∈ B) (x : ArgOb h A a) : ArgOb h B a := by
  obtain ⟨vs, h1, h2, h3⟩ := x
  exact ⟨vs, h1, fun u hu => (h2 u hu).mono k, h3⟩
theorem wellAll_len {P : Params} {h : Heap} : ∀ {vs : List Value} {ds : List WData}, WellAll P h vs ds → vs.length = ds.length
  | _, _, .nil => rfl
  | _, _, .cons _ b => by
    show _ + 1 = _ + 1
    rw [wellAll_len b]
theorem well_list {P : Params} {h : Heap} {v : Value} {ds : List WData} (x : Well P h v (.list ds)) : ∃ (a : Addr) (vs : List Value), v = .ref a ∧ h.get? a = some { cls := .type "list", data := .seq vs.toArray } ∧ WellAll P h vs ds := by
  cases x with
  | list ho hall => exact ⟨_, _, rfl, ho, hall⟩
theorem well_tuple {P : Params} {h : Heap} {v : Value} {ds : List WData} (x : Well P h v (.tuple ds)) : ∃ (a : Addr) (vs : List Value), v = .ref a ∧ h.get? a = some { cls := .type "tuple", data := .seq vs.toArray } ∧ WellAll P h vs ds := by
  cases x with
  | tuple ho hall => exact ⟨_, _, rfl, ho, hall⟩
theorem well_cons {P : Params} {h : Heap} {us : List Value} {d : WData} {ds : List WData} (x : WellAll P h us (d :: ds)) : ∃ (v : Value) (vs : List Value), us = v :: vs ∧ Well P h v d ∧ WellAll P h vs ds := by
  cases x with
  | cons a b => exact ⟨_, _, rfl, a, b⟩
theorem line_of {n : Nat} (h : n ≤ 1048576) : n ≤ sizeLine := Nat.le_trans h (by decide)
section
variable {P : Params} {h : Heap}
mutual
theorem area_one : ∀ (d : WData) (v : Value), Well P h v d → plW d = true → d.weight ≤ 1048576 → ∃ A : List Addr, OkU A v ∧ ∀ a ∈ A, ArgOb h A a
  | .none, _, x, _, _ => by
    cases x
    exact ⟨[], trivial, fun a m => absurd m (by simp)⟩
  | .bool b, _, x, _, _ => by
    cases x
    exact ⟨[], trivial, fun a m => absurd m (by simp)⟩
  | .int i, _, x, _, _ => by
    cases x
    exact ⟨[], trivial, fun a m => absurd m (by simp)⟩
  | .str s, _, x, _, _ => by
    cases x
    exact ⟨[], trivial, fun a m => absurd m (by simp)⟩
  | .bytes b, _, x, _, _ => by
    cases x
    exact ⟨[], trivial, fun a m => absurd m (by simp)⟩
  | .list ds, _, x, p, z => by
    obtain ⟨a, vs, rfl, ho, hall⟩ := well_list x
    have z2 : WData.weightAll ds ≤ 1048576 := z
    obtain ⟨A, h1, h2⟩ := area_all ds _ hall p fun d hd => Nat.le_trans (weight_mem hd) z2
    have k : ∀ b ∈ A, b ∈ a :: A := fun b hb => List.mem_cons_of_mem _ hb
    refine ⟨a :: A, List.mem_cons_self .., fun b hb => ?_⟩
    rcases List.mem_cons.mp hb with e | m
    · rw [e]
      exact ⟨vs, line_of (by rw [wellAll_len hall]; exact Nat.le_trans (PySem.W.length_le_weightAllW ds) z2), fun u hu => (h1 u hu).mono k, .inl ho⟩
    · exact (h2 b m).mono k
  | .tuple ds, _, x, p, z => by
    obtain ⟨a, vs, rfl, ho, hall⟩ := well_tuple x
    have z2 : WData.weightAll ds ≤ 1048576 := z
    obtain ⟨A, h1, h2⟩ := area_all ds _ hall p fun d hd => Nat.le_trans (weight_mem hd) z2
    have k : ∀ b ∈ A, b ∈ a :: A := fun b hb => List.mem_cons_of_mem _ hb
    refine ⟨a :: A, List.mem_cons_self .., fun b hb => ?_⟩
    rcases List.mem_cons.mp hb with e | m
    · rw [e]
      exact ⟨vs, line_of (by rw [wellAll_len hall]; exact Nat.le_trans (PySem.W.length_le_weightAllW ds) z2), fun u hu => (h1 u hu).mono k, .inr ho⟩
    · exact (h2 b m).mono k
  | .float _, _, _, p, _ => Bool.noConfusion (show false = true from p)
  | .dict _, _, _, p, _ => Bool.noConfusion (show false = true from p)
  | .bytearray _, _, _, p, _ => Bool.noConfusion (show false = true from p)
  | .set _, _, _, p, _ => Bool.noConfusion (show false = true from p)
  | .frozenset _, _, _, p, _ => Bool.noConfusion (show false = true from p)
  | .obj _ _, _, _, p, _ => Bool.noConfusion (show false = true from p)
theorem area_all : ∀ (ds : List WData) (vs : List Value), WellAll P h vs ds → plWs ds = true → (∀ d ∈ ds, d.weight ≤ 1048576) → ∃ A : List Addr, (∀ u ∈ vs, OkU A u) ∧ ∀ a ∈ A, ArgOb h A a
  | [], _, x, _, _ => by
    cases x
    exact ⟨[], fun u m => absurd m (by simp), fun a m => absurd m (by simp)⟩
  | d :: ds, _, x, p, z => by
    obtain ⟨v, vs, rfl, x1, x2⟩ := well_cons x
    have q : plW d = true ∧ plWs ds = true := Bool.and_eq_true_iff.mp p
    obtain ⟨A, a1, a2⟩ := area_one d v x1 q.1 (z d (List.mem_cons_self ..))
    obtain ⟨B, b1, b2⟩ := area_all ds vs x2 q.2 fun e he => z e (List.mem_cons_of_mem _ he)
    have kA : ∀ b ∈ A, b ∈ A ++ B := fun b hb => List.mem_append.mpr (.inl hb)
    have kB : ∀ b ∈ B, b ∈ A ++ B := fun b hb => List.mem_append.mpr (.inr hb)
    refine ⟨A ++ B, fun u hu => ?_, fun b hb => ?_⟩
    · rcases List.mem_cons.mp hu with e | m
      · rw [e]
        exact a1.mono kA
      · exact (b1 u m).mono kB
    · rcases List.mem_append.mp hb with m | m
      · exact (a2 b m).mono kA
      · exact (b2 b m).mono kB
end
end
/-- what is tracked of an argument's object -/
def hoOf (o : Obj) : Option HO := match o.data with
  | .seq vs _ => if (o.cls == Value.type "list") = true then some (.frz o (.lst (vs.toList.map toV))) else some (.frz o (.tup (vs.toList.map toV)))
  | _ => none
def argH (K : PySem.W.Frag) (h : Heap) (A : List Addr) : Hp := fun b => if b ∈ A then (if (K.lookup b).isNone = true then (h.get? b).bind hoOf else none) else none
/-- nothing is tracked but what is known to the object -/
def OnlyF (H : Hp) : Prop := ∀ b, H b = none ∨ ∃ o u, H b = some (.frz o u)
theorem hoOf_lst (vs : List Value) : hoOf { cls := .type "list", data := .seq vs.toArray } = some (.frz { cls := .type "list", data := .seq vs.toArray } (.lst (vs.map toV))) := by
  show (if (Value.type "list" == Value.type "list") = true then some (HO.frz { cls := .type "list", data := .seq vs.toArray } (.lst (vs.toArray.toList.map toV))) else some (HO.frz { cls := .type "list", data := .seq vs.toArray } (.tup (vs.toArray.toList.map toV)))) = _
  rw [if_pos (beq_self_eq_true _)]
theorem hoOf_tup (vs : List Value) : hoOf { cls := .type "tuple", data := .seq vs.toArray } = some (.frz { cls := .type "tuple", data := .seq vs.toArray } (.tup (vs.map toV))) := by
  show (if (Value.type "tuple" == Value.type "list") = true then some (HO.frz { cls := .type "tuple", data := .seq vs.toArray } (.lst (vs.toArray.toList.map toV))) else some (HO.frz { cls := .type "tuple", data := .seq vs.toArray } (.tup (vs.toArray.toList.map toV)))) = _
  rw [if_neg (by decide)]
section
variable {P : Program} {w : World} {K : PySem.W.Frag} {h : Heap} {A : List Addr}
theorem argH_at {b : Addr} {o : Obj} (hb : b ∈ A) (hk : K.lookup b = none) (e : h.get? b = some o) : argH K h A b = hoOf o := by
  unfold argH
  rw [if_pos hb, hk, if_pos (show (none : Option Obj).isNone = true from rfl), e] <;> rfl
theorem of_argH {b : Addr} {u : HO} (q : argH K h A b = some u) : b ∈ A ∧ K.lookup b = none := by
  unfold argH at q
  by_cases hb : b ∈ A
  · rw [if_pos hb] at q
    cases hk : K.lookup b with
    | none => exact ⟨hb, rfl⟩
    | some o =>
      rw [hk, if_neg (by simp)] at q
      cases q
  · rw [if_neg hb] at q
    cases q
/-- what stands tracked -/
theorem argH_is (ar : ∀ a ∈ A, ArgOb h A a) {b : Addr} {u : HO} (q : argH K h A b = some u) : K.lookup b = none ∧ ∃ vs : List Value, vs.length ≤ sizeLine ∧ (∀ u ∈ vs, OkU A u) ∧
    ((h.get? b = some { cls := .type "list", data := .seq vs.toArray } ∧ u = .frz { cls := .type "list", data := .seq vs.toArray } (.lst (vs.map toV))) ∨
     (h.get? b = some { cls := .type "tuple", data := .seq vs.toArray } ∧ u = .frz { cls := .type "tuple", data := .seq vs.toArray } (.tup (vs.map toV)))) := by
  obtain ⟨hb, hk⟩ := of_argH q
  obtain ⟨vs, h1, h2, h3⟩ := ar b hb
  refine ⟨hk, vs, h1, h2, ?_⟩
  rcases h3 with e | e
  · rw [argH_at hb hk e, hoOf_lst] at q
    exact .inl ⟨e, (Option.some.inj q).symm⟩
  · rw [argH_at hb hk e, hoOf_tup] at q
    exact .inr ⟨e, (Option.some.inj q).symm⟩
theorem argH_only (ar : ∀ a ∈ A, ArgOb h A a) : OnlyF (argH K h A) := fun b => by
  cases q : argH K h A b with
  | none => exact .inl rfl
  | some u =>
    obtain ⟨_, vs, _, _, ⟨_, e⟩ | ⟨_, e⟩⟩ := argH_is ar q
    · exact .inr ⟨_, _, by rw [e]⟩
    · exact .inr ⟨_, _, by rw [e]⟩
theorem argH_ok (ar : ∀ a ∈ A, ArgOb h A a) : HOk P w (argH K h A) h := fun b u q => by
  obtain ⟨_, vs, h1, h2, ⟨e, rfl⟩ | ⟨e, rfl⟩⟩ := argH_is ar q
  · exact ⟨e, by rw [List.length_map]; exact h1, vs, _, vals_toV h2, e⟩
  · exact ⟨e, by rw [List.length_map]; exact h1, vs, vals_toV h2, _, e, rfl, _, rfl⟩
theorem seq_inj {c c' : Value} {vs us : List Value} (e : (some { cls := c, data := .seq vs.toArray } : Option Obj) = some { cls := c', data := .seq us.toArray }) : c = c' ∧ vs = us := by
  have e1 := Option.some.inj e
  have e2 : c = c' := congrArg Obj.cls e1
  have e3 : Data.seq vs.toArray = Data.seq us.toArray := congrArg Obj.data e1
  injection e3 with e4
  refine ⟨e2, ?_⟩
  have e5 := congrArg Array.toList e4
  simpa using e5
/-- a list argument -/
theorem argL (KX : K.In h) (ar : ∀ a ∈ A, ArgOb h A a) {a : Addr} {vs : List Value} (ha : a ∈ A) (e : h.get? a = some { cls := .type "list", data := .seq vs.toArray }) : (∀ u ∈ vs, OkU A u) ∧ SqL K (argH K h A) a (vs.map toV) := by
  obtain ⟨us, h1, h2, h3⟩ := ar a ha
  have hu : us = vs := by
    rcases h3 with q | q
    · rw [e] at q
      exact (seq_inj q).2.symm
    · rw [e] at q
      exact absurd (Value.type.inj (seq_inj q).1) (by decide)
  subst hu
  refine ⟨h2, ?_⟩
  cases hk : K.lookup a with
  | none => exact .inl (.inr ⟨_, by rw [argH_at ha hk e, hoOf_lst]⟩)
  | some o =>
    have e2 := KX a o hk
    rw [e] at e2
    obtain rfl := Option.some.inj e2
    exact .inr ⟨_, us.toArray, _, hk, rfl, rfl, rfl, by rw [List.size_toArray]; exact h1, by simpa using vals_toV h2⟩
theorem argT (KX : K.In h) (ar : ∀ a ∈ A, ArgOb h A a) {a : Addr} {vs : List Value} (ha : a ∈ A) (e : h.get? a = some { cls := .type "tuple", data := .seq vs.toArray }) : (∀ u ∈ vs, OkU A u) ∧ SqT K (argH K h A) a (vs.map toV) := by
  obtain ⟨us, h1, h2, h3⟩ := ar a ha
  have hu : us = vs := by
    rcases h3 with q | q
    · rw [e] at q
      exact absurd (Value.type.inj (seq_inj q).1) (by decide)
    · rw [e] at q
      exact (seq_inj q).2.symm
  subst hu
  refine ⟨h2, ?_⟩
  cases hk : K.lookup a with
  | none => exact .inl (.inr ⟨_, by rw [argH_at ha hk e, hoOf_tup]⟩)
  | some o =>
    have e2 := KX a o hk
    rw [e] at e2
    obtain rfl := Option.some.inj e2
    exact .inr ⟨_, us.toArray, _, hk, rfl, rfl, by rw [List.size_toArray]; exact h1, by simpa using vals_toV h2⟩
mutual
theorem dw_one {Pm : Params} (KX : K.In h) (ar : ∀ a ∈ A, ArgOb h A a) : ∀ (d : WData) (v : Value), Well Pm h v d → plW d = true → OkU A v → Dw K (argH K h A) (toV v) d
  | .none, _, x, _, _ => by
    cases x
    exact .non
  | .bool b, _, x, _, _ => by
    cases x
    exact .bl b
  | .int i, _, x, _, _ => by
    cases x
    exact .int i
  | .str s, _, x, _, _ => by
    cases x
    exact .str s
  | .bytes b, _, x, _, _ => by
    cases x
    have z := Dw.byt (K := K) (H := argH K h A) b.toArray
    exact z
  | .list ds, _, x, p, hu => by
    obtain ⟨a, vs, rfl, ho, hall⟩ := well_list x
    obtain ⟨h2, hs⟩ := argL KX ar hu ho
    exact .lst hs (dw_all KX ar ds _ hall p h2)
  | .tuple ds, _, x, p, hu => by
    obtain ⟨a, vs, rfl, ho, hall⟩ := well_tuple x
    obtain ⟨h2, hs⟩ := argT KX ar hu ho
    exact .tup hs (dw_all KX ar ds _ hall p h2)
  | .float _, _, _, p, _ => Bool.noConfusion (show false = true from p)
  | .dict _, _, _, p, _ => Bool.noConfusion (show false = true from p)
  | .bytearray _, _, _, p, _ => Bool.noConfusion (show false = true from p)
  | .set _, _, _, p, _ => Bool.noConfusion (show false = true from p)
  | .frozenset _, _, _, p, _ => Bool.noConfusion (show false = true from p)
  | .obj _ _, _, _, p, _ => Bool.noConfusion (show false = true from p)
theorem dw_all {Pm : Params} (KX : K.In h) (ar : ∀ a ∈ A, ArgOb h A a) : ∀ (ds : List WData) (vs : List Value), WellAll Pm h vs ds → plWs ds = true → (∀ u ∈ vs, OkU A u) → DwAll K (argH K h A) (vs.map toV) ds
  | [], _, x, _, _ => by
    cases x
    exact .nil
  | d :: ds, _, x, p, hu => by
    obtain ⟨v, vs, rfl, x1, x2⟩ := well_cons x
    have q : plW d = true ∧ plWs ds = true := Bool.and_eq_true_iff.mp p
    exact .cons (dw_one KX ar d v x1 q.1 (hu _ (List.mem_cons_self ..))) (dw_all KX ar ds vs x2 q.2 fun u m => hu u (List.mem_cons_of_mem _ m))
end
end
/-! ### the call -/
theorem spec_call {P : Program} {w : World} {K : PySem.W.Frag} {mg mb : Str → Option Value} {CX : CXT} {k : Nat} {fa : Addr} {fd : FuncData} {ps : List Str} {sp : Sp} {s₁ : Shared} {vals : List Value} {ds : List WData} {R : PySem.W.WRecords} {cl : Str → Option Addr} {d0 : WData}
    (KX : K.In s₁.heap) (hns : s₁.heap.Ns mainGlobals mg) (hb : s₁.heap.Ns builtinsNs mb) (hbb : ∀ x : Str, x ≠ "__name__" → mb x = bootBuiltins x) (hlim : s₁.heap.NoLimit) (hg : s₁.gens = #[])
    (hwl : WellAll w.params s₁.heap vals ds) (hpl : plWs ds = true) (hwt : ∀ d ∈ ds, d.weight ≤ 1048576) (hr : Room k callerA)
    (F : ∀ base : Heap, K.In base → base.Ns mainGlobals mg → FnOk P w K mg base CX k fa fd ps sp) (hbind : ∀ (s : Shared) (us : List Value), us.length = ps.length → BindsTo s fd ⟨us, []⟩ (ps.zip us)) (hlen : ds.length = ps.length)
    (hsp : ∀ (H : Hp) (xs : List V), OnlyF H → DwAll K H xs ds → sp xs H (fun v H' => Dw K H' v d0) fun _ _ _ => False)
    (hCX : ∀ H e s', CX [] H s₁ (fun _ _ _ => False) e s' → False) :
    codeAny (model P w) callerA (.call (.ref fa) ⟨vals, []⟩) (fun r s' => ∃ u as, r = .ok (.ret u) ∧ ReadsW R cl s'.heap u d0 as ∧ OldK s₁.heap s'.heap ∧ s'.os = s₁.os ∧ AllBare s'.gens) s₁ := by
  obtain ⟨A, ho, ar⟩ := area_all ds vals hwl hpl hwt
  have hO : OnlyF (argH K s₁.heap A) := argH_only ar
  have hok : HOk P w (argH K s₁.heap A) s₁.heap := argH_ok ar
  have hS := dw_all KX ar ds vals hwl hpl ho
  have hV := vals_toV ho
  have hK : ∀ b u, argH K s₁.heap A b = some u → K.lookup b = none := fun b u q => (argH_is ar q).1
  have noA : ∀ {b : Addr} {o : Obj} {es : Array DictEntry} {ep : Nat}, s₁.heap.get? b = some o → o.data = .dict es ep → argH K s₁.heap A b = none := fun {b o es ep} e d => by
    cases q : argH K s₁.heap A b with
    | none => rfl
    | some u =>
      obtain ⟨_, vs, _, _, ⟨e2, _⟩ | ⟨e2, _⟩⟩ := argH_is ar q
      · rw [e2] at e
        cases e
        have d' : Data.seq vs.toArray _ = Data.dict es ep := d
        cases d'
      · rw [e2] at e
        cases e
        have d' : Data.seq vs.toArray _ = Data.dict es ep := d
        cases d'
  generalize argH K s₁.heap A = H at hO hok hS hK noA
  have base_of : ∀ {b : Addr} {o : Obj}, s₁.heap.get? b = some o → H b = none → (hidT s₁.heap H).get? b = some o := fun e n => hidT_get e n
  have nsK : ∀ {b : Addr} {m : Str → Option Value}, s₁.heap.Ns b m → (hidT s₁.heap H).Ns b m := fun {b m} ⟨o, es, ep, e, d, r⟩ => ⟨o, es, ep, base_of e (noA e d), d, r⟩
  have nK : ∀ b o, K.lookup b = some o → H b = none := fun b o e => by
    cases q : H b with
    | none => rfl
    | some u =>
      rw [hK b u q] at e
      cases e
  have hKb : K.In (hidT s₁.heap H) := fun b o e => base_of (KX b o e) (nK b o e)
  have hM : Mod K mg (hidT s₁.heap H) := ⟨hKb, nsK hns, ⟨mb, nsK hb, hbb⟩, let ⟨mc, h1, h2⟩ := hlim; ⟨mc, nsK h1, h2⟩⟩
  have e0 : Env0 P w K mg (hidT s₁.heap H) callerA [] s₁ H := ⟨rfl, hM, fun b o e => of_hidT e, Nat.le_of_eq (hidT_size _ _), trivial, fun b hb => absurd (show b ∈ ([] : List Addr) from hb) (by simp), hok, .of_eq hg⟩
  have hl : vals.length = ps.length := by rw [wellAll_len hwl]; exact hlen
  refine codeAny_mono ((F _ hKb (nsK hns)).run callerA [] s₁ H ⟨vals, []⟩ vals (vals.map toV) _ _ hr e0 (hbind s₁ vals hl) hV (hsp H _ hO hS)) fun r s' x => ?_
  cases r with
  | error e => exact (hCX H e s' x).elim
  | ok fl =>
    cases fl with
    | next => exact False.elim x
    | brk => exact False.elim x
    | cont => exact False.elim x
    | ret u =>
      obtain ⟨v, H', os, bare, un, hok', r', q⟩ := x
      have kept : ∀ b o, s₁.heap.get? b = some o → s'.heap.get? b = some o := fun b o e => by
        cases q2 : H b with
        | none => exact un.keep b o e q2 (by intro z; exact absurd (show b ∈ ([] : List Addr) from z) (by simp)) (by simp)
        | some u2 =>
          rcases hO b with z | ⟨ob, u3, z⟩
          · rw [q2] at z
            cases z
          · have z2 := un.frzs b ob _ z
            obtain ⟨e1, _⟩ := hok b _ z
            obtain ⟨e2, _⟩ := hok' b _ z2
            rw [e] at e1
            cases e1
            exact e2
      have KX' : K.In s'.heap := fun b o e => kept b o (KX b o e)
      obtain ⟨as, hrd⟩ := Dw.reads (R := R) (cl := cl) hok' KX' d0 v u q r'
      exact ⟨u, as, rfl, hrd, OldK.of_keep kept, os, bare⟩
/-! ### the row -/
theorem layable_weight {ds : List WData} (h : WData.layableAll ds = true) : ∀ d ∈ ds, d.weight ≤ 1048576 := fun d hd =>
  (PySem.W.layableW_iff.mp (List.all_eq_true.mp h d hd)).2.2
theorem encAll_len : ∀ (cs : List Codec) (a : Codec.denoteAll cs), (Codec.encAll cs a).length = cs.length
  | [], _ => rfl
  | c :: cs, a => by
    show (Codec.encAll cs a.2).length + 1 = cs.length + 1
    rw [encAll_len cs a.2]
/-- the goal that k_headS leaves (case hc), from the promise of the row's def: whatever the arguments that the codecs let and the row asks for, the def gives what stands for enc (f ..) -/
theorem walk_spec {r : OpenSpec} {k : Nat} {q : Program} {loose : List Str} {XP : (Str → Option Value) → Heap → Prop} {YP : World → Heap → Prop} {d : DefRec} {K : Params → PySem.W.Frag} {CX : World → CXT} {ps : List Str} {sp : World → Sp}
    (hwell : r.wellSaid = true) (hdf : d.params.defaults = []) (hlen : r.args.length = ps.length) (hr : Room k callerA)
    (hY : ∀ (w : World) (h : Heap), YP w h → (K w.params).In h)
    (F : ∀ (w : World) (mg : Str → Option Value) (fa : Addr) (h : Heap), YP w h → (K w.params).In h → h.Ns mainGlobals mg → mg d.name = some (.ref fa) →
      ∃ fd : FuncData, (∀ (s : Shared) (us : List Value), us.length = ps.length → BindsTo s fd ⟨us, []⟩ (ps.zip us)) ∧
        ∀ base : Heap, (K w.params).In base → base.Ns mainGlobals mg → FnOk r.prog w (K w.params) mg base (CX w) k fa fd ps (sp w))
    (hsp : ∀ (w : World) (H : Hp) (xs : List V) (a : Codec.denoteAll r.args), OnlyF H → Codec.withinAll r.args a = true → Codec.app r.args r.asked a = true → DwAll (K w.params) H xs (Codec.encAll r.args a) →
      sp w xs H (fun v H' => Dw (K w.params) H' v (r.ret.enc (Codec.app r.args r.f a))) fun _ _ _ => False)
    (hCX : ∀ (w : World) (H : Hp) (s : Shared) (e : Value) (s' : Shared), CX w [] H s (fun _ _ _ => False) e s' → False) :
    PySem.W.WalkOS q loose XP YP r d [] (fun f vs => PySem.call f vs) := by
  intro w s_0 s₁ mg mb G Y fa o pm cd doc dV kV ho hd hcd hD hmg hg args vals as hpre hlay hrd hwl hlo
  obtain ⟨a, e1, e2⟩ := PySem.W.os_pre_some hpre
  obtain ⟨e3, hwi⟩ := Codec.encAll_of_decAll r.args args a e1
  subst e3
  have KX := hY w _ Y
  obtain ⟨fd, hb, hF⟩ := F w mg fa _ Y KX G.T.g hmg
  refine PySem.W.enter_call (codeAny_mono (spec_call (R := []) (cl := classAt s_0.heap) (d0 := r.ret.enc (Codec.app r.args r.f a)) KX G.T.g G.T.b G.T.builtins G.T.nolimit hg hwl (pl_encAll _ _) (layable_weight hlay) hr hF hb (by rw [encAll_len]; exact hlen)
    (fun H xs hO hS => hsp w H xs a hO hwi e2 hS) fun H e s' => hCX w H s₁ e s') fun r' s' hq => ?_)
  obtain ⟨u, as', rfl, h1, h2, h3, h4⟩ := hq
  exact ⟨.inl ⟨u, _, as', rfl, fun _ => rfl, h1, (OpenSpec.post_iff hwell hwi _ _).mpr rfl, fun z => Bool.noConfusion (show false = true from z)⟩, h2, h3, h4⟩
/-- the same where the promise hangs on the written part alone -/
theorem walk_specK {r : OpenSpec} {k : Nat} {q : Program} {loose : List Str} {XP : (Str → Option Value) → Heap → Prop} {YP : World → Heap → Prop} {d : DefRec} {K : Params → PySem.W.Frag} {CX : CXT} {ps : List Str} {sp : PySem.W.Frag → Sp}
    (hwell : r.wellSaid = true) (hdf : d.params.defaults = []) (hlen : r.args.length = ps.length) (hr : Room k callerA)
    (hY : ∀ (w : World) (h : Heap), YP w h → (K w.params).In h)
    (F : ∀ (w : World) (mg : Str → Option Value) (fa : Addr) (h : Heap), YP w h → (K w.params).In h → h.Ns mainGlobals mg → mg d.name = some (.ref fa) →
      ∃ fd : FuncData, (∀ (s : Shared) (us : List Value), us.length = ps.length → BindsTo s fd ⟨us, []⟩ (ps.zip us)) ∧
        ∀ base : Heap, (K w.params).In base → base.Ns mainGlobals mg → FnOk r.prog w (K w.params) mg base CX k fa fd ps (sp (K w.params)))
    (hsp : ∀ (K : PySem.W.Frag) (H : Hp) (xs : List V) (a : Codec.denoteAll r.args), OnlyF H → Codec.withinAll r.args a = true → Codec.app r.args r.asked a = true → DwAll K H xs (Codec.encAll r.args a) →
      sp K xs H (fun v H' => Dw K H' v (r.ret.enc (Codec.app r.args r.f a))) fun _ _ _ => False)
    (hCX : ∀ (H : Hp) (s : Shared) (e : Value) (s' : Shared), CX [] H s (fun _ _ _ => False) e s' → False) :
    PySem.W.WalkOS q loose XP YP r d [] (fun f vs => PySem.call f vs) :=
  walk_spec (K := K) (CX := fun _ => CX) (sp := fun w => sp (K w.params)) hwell hdf hlen hr hY F (fun w H xs a h1 h2 h3 h4 => hsp (K w.params) H xs a h1 h2 h3 h4) fun _ H s e s' => hCX H s e s'
end L2
end
end
section
set_option Elab.async false
namespace Pd
open Ks301 (Rules Score over tie isLong setsOf okRules okGames okPoints okSet okSets can)
open Ks302 (point play setWon gameWon)

/-! ### sets won -/
theorem setsOf_snoc (f : Bool) (l : List (Nat × Nat × Nat)) (x : Nat × Nat × Nat) :
    setsOf f (l ++ [x]) = setsOf f l + (if (if f then decide (x.2.1 < x.1) else decide (x.1 < x.2.1)) then 1 else 0) := by
  unfold setsOf
  rw [List.filter_append, List.length_append]
  congr 1
  cases f <;> simp [List.filter_cons] <;> split <;> rfl
theorem setsOf_t (l : List (Nat × Nat × Nat)) (a b t : Nat) : setsOf true (l ++ [(a, b, t)]) = setsOf true l + (if b < a then 1 else 0) := by
  rw [setsOf_snoc]; simp
theorem setsOf_f (l : List (Nat × Nat × Nat)) (a b t : Nat) : setsOf false (l ++ [(a, b, t)]) = setsOf false l + (if a < b then 1 else 0) := by
  rw [setsOf_snoc]; simp

/-- what the points of a match keep -/
structure Wf (r : Rules) (s : Score) : Prop where
  ok : okRules r = true
  wa : setsOf true s.done ≤ r.sets
  wb : setsOf false s.done ≤ r.sets
  len : s.done.length = setsOf true s.done + setsOf false s.done
  fin : over r s.done = true → s.ga = 0 ∧ s.gb = 0 ∧ s.pa = 0 ∧ s.pb = 0
  go : over r s.done = false → okGames r s.done s.ga s.gb = true ∧ okPoints r s = true

theorem okR {r : Rules} : okRules r = true ↔ 1 ≤ r.sets ∧ r.sets ≤ 3 ∧ 2 ≤ r.games ∧ r.games ≤ 8 := by
  unfold okRules; simp [and_assoc]
theorem over_f {r : Rules} {l : List (Nat × Nat × Nat)} : over r l = false ↔ setsOf true l < r.sets ∧ setsOf false l < r.sets := by
  unfold over; simp [Nat.not_le]
theorem over_t {r : Rules} {l : List (Nat × Nat × Nat)} : over r l = true ↔ r.sets ≤ setsOf true l ∨ r.sets ≤ setsOf false l := by
  unfold over; simp
theorem isLong_t {r : Rules} {l : List (Nat × Nat × Nat)} : isLong r l = true ↔ r.long = true ∧ setsOf true l + 1 = r.sets ∧ setsOf false l + 1 = r.sets := by
  unfold isLong; simp [and_assoc]
theorem tie_t {r : Rules} {s : Score} : tie r s = true ↔ s.ga = r.games ∧ s.gb = r.games ∧ isLong r s.done = false := by
  unfold tie; simp [and_assoc]
theorem okGames_t {r : Rules} {l : List (Nat × Nat × Nat)} {a b : Nat} : okGames r l a b = true ↔
    (a < r.games ∧ b < r.games) ∨ (r.games ≤ a + 1 ∧ r.games ≤ b + 1 ∧ a ≤ r.games ∧ b ≤ r.games) ∨ (isLong r l = true ∧ r.games ≤ a ∧ r.games ≤ b ∧ a ≤ b + 1 ∧ b ≤ a + 1) := by
  unfold okGames; simp [and_assoc, or_assoc]
theorem okPoints_tie {r : Rules} {s : Score} (h : tie r s = true) : okPoints r s = true ↔ (s.pa < 7 ∧ s.pb < 7) ∨ (s.pa ≤ s.pb + 1 ∧ s.pb ≤ s.pa + 1) := by
  unfold okPoints; rw [if_pos h]; simp
theorem okPoints_game {r : Rules} {s : Score} (h : tie r s = false) : okPoints r s = true ↔ (s.pa ≤ 3 ∧ s.pb ≤ 3) ∨ (r.short = false ∧ ((s.pa = 4 ∧ s.pb = 3) ∨ (s.pa = 3 ∧ s.pb = 4))) := by
  unfold okPoints; rw [if_neg (by rw [h]; decide)]; simp

theorem okP_tie {r : Rules} {s : Score} (h : tie r s = true) (p q : Nat) : okPoints r ⟨s.done, s.ga, s.gb, p, q⟩ = true ↔ (p < 7 ∧ q < 7) ∨ (p ≤ q + 1 ∧ q ≤ p + 1) := okPoints_tie (s := ⟨s.done, s.ga, s.gb, p, q⟩) h
theorem okP_game {r : Rules} {s : Score} (h : tie r s = false) (p q : Nat) : okPoints r ⟨s.done, s.ga, s.gb, p, q⟩ = true ↔ (p ≤ 3 ∧ q ≤ 3) ∨ (r.short = false ∧ ((p = 4 ∧ q = 3) ∨ (p = 3 ∧ q = 4))) := okPoints_game (s := ⟨s.done, s.ga, s.gb, p, q⟩) h
/-- a new set: nothing yet -/
theorem wf_new {r : Rules} {l : List (Nat × Nat × Nat)} (ok : okRules r = true) (wa : setsOf true l ≤ r.sets) (wb : setsOf false l ≤ r.sets) (hl : l.length = setsOf true l + setsOf false l) : Wf r ⟨l, 0, 0, 0, 0⟩ := by
  refine ⟨ok, wa, wb, hl, fun _ => ⟨rfl, rfl, rfl, rfl⟩, fun _ => ⟨?_, ?_⟩⟩
  · rw [okGames_t]; have := okR.mp ok; left; exact ⟨by show 0 < r.games; omega, by show 0 < r.games; omega⟩
  · have : tie r ⟨l, 0, 0, 0, 0⟩ = false := by
      cases e : tie r ⟨l, 0, 0, 0, 0⟩ with
      | false => rfl
      | true =>
        have h1 : 0 = r.games := (tie_t.mp e).1
        have := okR.mp ok; omega
    rw [okPoints_game this]; left; exact ⟨Nat.zero_le _, Nat.zero_le _⟩
theorem wf_set {r : Rules} {s : Score} {a b t : Nat} (W : Wf r s) (ho : over r s.done = false) (hab : a ≠ b) : Wf r (setWon s a b t) := by
  have := over_f.mp ho
  refine wf_new W.ok ?_ ?_ ?_
  · rw [setsOf_t]; split <;> omega
  · rw [setsOf_f]; split <;> omega
  · have hl := W.len
    rw [setsOf_t, setsOf_f, List.length_append, List.length_singleton]
    split <;> split <;> omega
theorem tie_zero {r : Rules} {l : List (Nat × Nat × Nat)} {a b p q : Nat} {p' q' : Nat} : tie r ⟨l, a, b, p, q⟩ = tie r ⟨l, a, b, p', q'⟩ := rfl
/-- games of a set that goes on, by numbers alone -/
def okG (lng : Bool) (G a b : Nat) : Prop := (a < G ∧ b < G) ∨ (G ≤ a + 1 ∧ G ≤ b + 1 ∧ a ≤ G ∧ b ≤ G) ∨ (lng = true ∧ G ≤ a ∧ G ≤ b ∧ a ≤ b + 1 ∧ b ≤ a + 1)
theorem okG.symm {lng : Bool} {G a b : Nat} (h : okG lng G a b) : okG lng G b a := by
  rcases h with h | h | h
  · exact .inl h.symm
  · exact .inr (.inl ⟨h.2.1, h.1, h.2.2.2, h.2.2.1⟩)
  · exact .inr (.inr ⟨h.1, h.2.2.1, h.2.1, h.2.2.2.2, h.2.2.2.1⟩)
/-- one game more, the set goes on -/
theorem okG.more {lng : Bool} {G a b : Nat} (h : okG lng G a b) (nt : ¬ (a = G ∧ b = G ∧ lng = false)) (hn : ¬ (G ≤ a + 1 ∧ b + 2 ≤ a + 1)) : okG lng G (a + 1) b := by
  by_cases h1 : a + 1 < G
  · rcases h with h | h | h
    · exact .inl ⟨h1, h.2⟩
    · exact absurd h.1 (by omega)
    · exact absurd h.2.1 (by omega)
  · have hb : a ≤ b := by omega
    by_cases h2 : a + 1 = G
    · have : b ≤ G := by
        rcases h with h | h | h <;> omega
      exact .inr (.inl ⟨by omega, by omega, by omega, this⟩)
    · cases lng with
      | false =>
        rcases h with h | h | h
        · omega
        · exact absurd ⟨by omega, by omega, rfl⟩ nt
        · exact absurd h.1 (by decide)
      | true =>
        have : b ≤ a + 1 := by
          rcases h with h | h | h <;> omega
        exact .inr (.inr ⟨rfl, by omega, by omega, by omega, by omega⟩)
/-- the other one is not far ahead -/
theorem okG.near {lng : Bool} {G a b : Nat} (h : okG lng G a b) : ¬ (G ≤ b ∧ a + 1 + 2 ≤ b) := by
  rcases h with h | h | h <;> omega
theorem okG_t {r : Rules} {l : List (Nat × Nat × Nat)} {a b : Nat} : okGames r l a b = true ↔ okG (isLong r l) r.games a b := okGames_t
theorem wf_game {r : Rules} {s : Score} {a b : Nat} (W : Wf r s) (ho : over r s.done = false) (ht : tie r s = false) (h : (a = s.ga + 1 ∧ b = s.gb) ∨ (a = s.ga ∧ b = s.gb + 1)) : Wf r (gameWon r s a b) := by
  unfold gameWon
  split
  · rename_i hc
    exact wf_set W ho (by omega)
  · rename_i hn
    refine ⟨W.ok, W.wa, W.wb, W.len, fun h => ?_, fun _ => ⟨?_, ?_⟩⟩
    · have : over r s.done = true := h
      rw [ho] at this; cases this
    · show okGames r s.done a b = true
      have g := okG_t.mp (W.go ho).1
      have nt : ¬ (s.ga = r.games ∧ s.gb = r.games ∧ isLong r s.done = false) := fun z => by rw [tie_t.mpr z] at ht; cases ht
      rw [okG_t]
      rcases h with ⟨rfl, rfl⟩ | ⟨rfl, rfl⟩
      · exact g.more nt fun z => hn (.inl z)
      · exact (g.symm.more (fun z => nt ⟨z.2.1, z.1, z.2.2⟩) fun z => hn (.inr z)).symm
    · cases e : tie r ⟨s.done, a, b, 0, 0⟩ with
      | true => rw [okPoints_tie e]; left; exact ⟨by show 0 < 7; decide, by show 0 < 7; decide⟩
      | false => rw [okPoints_game e]; left; exact ⟨Nat.zero_le _, Nat.zero_le _⟩

/-! ### the program's own point -/
def has (first : Bool) (p q least lead : Nat) : Bool := if first then decide (least ≤ p) && decide (q + lead ≤ p) else decide (least ≤ q) && decide (p + lead ≤ q)
def one (p q : Nat) (first : Bool) : Nat × Nat := if first then (p + 1, q) else (p, q + 1)
/-- the set that ends now -/
def aftSet (s : Score) (g : Nat × Nat) (t : Nat) : Score := ⟨s.done ++ [(g.1, g.2, t)], 0, 0, 0, 0⟩
def aftGame (r : Rules) (s : Score) (first : Bool) : Score :=
  let g := one s.ga s.gb first
  if has first g.1 g.2 r.games 2 then aftSet s g 0 else ⟨s.done, g.1, g.2, 0, 0⟩
def aft (r : Rules) (s : Score) (first : Bool) : Score :=
  let p := one s.pa s.pb first
  if tie r s then
    if has first p.1 p.2 7 2 then aftSet s (one s.ga s.gb first) (if first then p.2 else p.1)
    else ⟨s.done, s.ga, s.gb, p.1, p.2⟩
  else if has first p.1 p.2 4 (if r.short then 1 else 2) then aftGame r s first
  else if p.1 = 4 ∧ p.2 = 4 then ⟨s.done, s.ga, s.gb, 3, 3⟩
  else ⟨s.done, s.ga, s.gb, p.1, p.2⟩

theorem game_eq {r : Rules} {s : Score} (W : Wf r s) (ho : over r s.done = false) (ht : tie r s = false) : gameWon r s (s.ga + 1) s.gb = aftGame r s true ∧ gameWon r s s.ga (s.gb + 1) = aftGame r s false := by
  have g := okG_t.mp (W.go ho).1
  constructor
  · unfold gameWon aftGame has one aftSet setWon
    simp only [if_true]
    by_cases c : r.games ≤ s.ga + 1 ∧ s.gb + 2 ≤ s.ga + 1
    · rw [if_pos (Or.inl c), if_pos (by simp only [Bool.and_eq_true, decide_eq_true_eq]; exact c)]
    · rw [if_neg (fun z => z.elim c g.near), if_neg (by simp only [Bool.and_eq_true, decide_eq_true_eq]; exact c)]
  · unfold gameWon aftGame has one aftSet setWon
    simp only [if_false, Bool.false_eq_true]
    by_cases c : r.games ≤ s.gb + 1 ∧ s.ga + 2 ≤ s.gb + 1
    · rw [if_pos (Or.inr c), if_pos (by simp only [Bool.and_eq_true, decide_eq_true_eq]; exact c)]
    · rw [if_neg (fun z => z.elim g.symm.near c), if_neg (by simp only [Bool.and_eq_true, decide_eq_true_eq]; exact c)]

/-- points of a game that goes on, by numbers alone: few, so looked at one by one -/
abbrev okP (short : Bool) (a b : Nat) : Prop := (a ≤ 3 ∧ b ≤ 3) ∨ (short = false ∧ ((a = 4 ∧ b = 3) ∨ (a = 3 ∧ b = 4)))
theorem okP.small {short : Bool} {a b : Nat} (h : okP short a b) : a < 5 ∧ b < 5 := by
  rcases h with h | ⟨_, h | h⟩ <;> omega
abbrev lead (short : Bool) : Nat := if short = true then 1 else 2
theorem gm_fin (short first : Bool) : ∀ (a b : Fin 5), okP short a.val b.val →
    ((4 ≤ (one a.val b.val first).1 ∧ (short = true ∨ (one a.val b.val first).2 + 2 ≤ (one a.val b.val first).1) ∧ (one a.val b.val first).2 < (one a.val b.val first).1) ↔ (first = true ∧ has first (one a.val b.val first).1 (one a.val b.val first).2 4 (lead short) = true)) ∧
    ((4 ≤ (one a.val b.val first).2 ∧ (short = true ∨ (one a.val b.val first).1 + 2 ≤ (one a.val b.val first).2) ∧ (one a.val b.val first).1 < (one a.val b.val first).2) ↔ (first = false ∧ has first (one a.val b.val first).1 (one a.val b.val first).2 4 (lead short) = true)) ∧
    (¬ has first (one a.val b.val first).1 (one a.val b.val first).2 4 (lead short) = true → ¬ ((one a.val b.val first).1 = 4 ∧ (one a.val b.val first).2 = 4) → okP short (one a.val b.val first).1 (one a.val b.val first).2) := by
  cases short <;> cases first <;> decide
theorem gm {short : Bool} {a b : Nat} (h : okP short a b) (first : Bool) :
    ((4 ≤ (one a b first).1 ∧ (short = true ∨ (one a b first).2 + 2 ≤ (one a b first).1) ∧ (one a b first).2 < (one a b first).1) ↔ (first = true ∧ has first (one a b first).1 (one a b first).2 4 (lead short) = true)) ∧
    ((4 ≤ (one a b first).2 ∧ (short = true ∨ (one a b first).1 + 2 ≤ (one a b first).2) ∧ (one a b first).1 < (one a b first).2) ↔ (first = false ∧ has first (one a b first).1 (one a b first).2 4 (lead short) = true)) ∧
    (¬ has first (one a b first).1 (one a b first).2 4 (lead short) = true → ¬ ((one a b first).1 = 4 ∧ (one a b first).2 = 4) → okP short (one a b first).1 (one a b first).2) :=
  gm_fin short first ⟨a, h.small.1⟩ ⟨b, h.small.2⟩ h
/-- points of a tie break that goes on -/
abbrev okT (a b : Nat) : Prop := (a < 7 ∧ b < 7) ∨ (a ≤ b + 1 ∧ b ≤ a + 1)
theorem okT.near {a b : Nat} (h : okT a b) : ¬ (7 ≤ b ∧ a + 1 + 2 ≤ b) := by
  rcases h with h | h <;> omega
theorem okT.more {a b : Nat} (h : okT a b) (hn : ¬ (7 ≤ a + 1 ∧ b + 2 ≤ a + 1)) : okT (a + 1) b := by
  by_cases h1 : a + 1 < 7 ∧ b < 7
  · exact .inl h1
  · refine .inr ⟨by rcases h with h | h <;> omega, by rcases h with h | h <;> omega⟩
theorem has_t {p q l d : Nat} : has true p q l d = true ↔ l ≤ p ∧ q + d ≤ p := by
  unfold has; simp
theorem has_f {p q l d : Nat} : has false p q l d = true ↔ l ≤ q ∧ p + d ≤ q := by
  unfold has; simp
theorem point_aft {r : Rules} {s : Score} (W : Wf r s) (ho : over r s.done = false) (first : Bool) : point r s first = some (aft r s first) := by
  obtain ⟨hg, hp⟩ := W.go ho
  unfold point aft
  rw [if_neg (by rw [ho]; decide)]
  cases ht : tie r s with
  | true =>
    have t := tie_t.mp ht
    have p : okT s.pa s.pb := (okPoints_tie ht).mp hp
    simp only [if_true]
    cases first with
    | true =>
      show (if 7 ≤ s.pa + 1 ∧ s.pb + 2 ≤ s.pa + 1 then _ else if 7 ≤ s.pb ∧ s.pa + 1 + 2 ≤ s.pb then _ else _) = some (if has true (s.pa + 1) s.pb 7 2 = true then _ else _)
      by_cases c : 7 ≤ s.pa + 1 ∧ s.pb + 2 ≤ s.pa + 1
      · rw [if_pos c, if_pos (has_t.mpr c), setWon, aftSet, one, t.1, t.2.1]
        rfl
      · rw [if_neg c, if_neg p.near, if_neg (fun z => c (has_t.mp z))]
        rfl
    | false =>
      have p' : okT s.pb s.pa := by
        rcases p with p | p
        · exact .inl p.symm
        · exact .inr p.symm
      show (if 7 ≤ s.pa ∧ s.pb + 1 + 2 ≤ s.pa then _ else if 7 ≤ s.pb + 1 ∧ s.pa + 2 ≤ s.pb + 1 then _ else _) = some (if has false s.pa (s.pb + 1) 7 2 = true then _ else _)
      rw [if_neg p'.near]
      by_cases c : 7 ≤ s.pb + 1 ∧ s.pa + 2 ≤ s.pb + 1
      · rw [if_pos c, if_pos (has_f.mpr c), setWon, aftSet, one, t.1, t.2.1]
        rfl
      · rw [if_neg c, if_neg (fun z => c (has_f.mp z))]
        rfl
  | false =>
    obtain ⟨k1, k2, _⟩ := gm ((okPoints_game ht).mp hp) first
    have ge := game_eq W ho ht
    rw [ge.1, ge.2]
    simp only [if_false, Bool.false_eq_true]
    have e1 : (if first = true then s.pa + 1 else s.pa) = (one s.pa s.pb first).1 := by cases first <;> rfl
    have e2 : (if first = true then s.pb else s.pb + 1) = (one s.pa s.pb first).2 := by cases first <;> rfl
    rw [e1, e2]
    by_cases c : has first (one s.pa s.pb first).1 (one s.pa s.pb first).2 4 (lead r.short) = true
    · rw [if_pos c]
      cases first with
      | true => rw [if_pos (k1.mpr ⟨rfl, c⟩)]
      | false => rw [if_neg (fun z => Bool.noConfusion (k1.mp z).1), if_pos (k2.mpr ⟨rfl, c⟩)]
    · rw [if_neg (fun z => c (k1.mp z).2), if_neg (fun z => c (k2.mp z).2), if_neg c]
      split <;> rfl

theorem point_over {r : Rules} {s : Score} (ho : over r s.done = true) (first : Bool) : point r s first = none := by
  unfold point; rw [if_pos ho]

theorem wf_aft {r : Rules} {s : Score} (W : Wf r s) (ho : over r s.done = false) (first : Bool) : Wf r (aft r s first) := by
  obtain ⟨hg, hp⟩ := W.go ho
  have stay : ∀ (p q : Nat), okPoints r ⟨s.done, s.ga, s.gb, p, q⟩ = true → Wf r ⟨s.done, s.ga, s.gb, p, q⟩ := fun _ _ h =>
    ⟨W.ok, W.wa, W.wb, W.len, fun z => (by have z' : over r s.done = true := z; rw [ho] at z'; cases z'), fun _ => ⟨hg, h⟩⟩
  unfold aft
  cases ht : tie r s with
  | true =>
    have t := tie_t.mp ht
    have p : okT s.pa s.pb := (okPoints_tie ht).mp hp
    simp only [if_true]
    by_cases hn : has first (one s.pa s.pb first).1 (one s.pa s.pb first).2 7 2 = true
    · rw [if_pos hn]
      refine wf_set W ho ?_
      rw [t.1, t.2.1]
      cases first
      · exact Nat.ne_of_lt (Nat.lt_succ_self _)
      · exact Nat.ne_of_gt (Nat.lt_succ_self _)
    · rw [if_neg hn]
      refine stay _ _ ((okP_tie ht _ _).mpr ?_)
      cases first with
      | true => exact p.more fun z => hn (has_t.mpr z)
      | false =>
        have p' : okT s.pb s.pa := by
          rcases p with p | p
          · exact .inl p.symm
          · exact .inr p.symm
        rcases p'.more (fun z => hn (has_f.mpr z)) with q | q
        · exact .inl q.symm
        · exact .inr q.symm
  | false =>
    obtain ⟨_, _, k3⟩ := gm ((okPoints_game ht).mp hp) first
    have ge := game_eq W ho ht
    simp only [if_false, Bool.false_eq_true]
    by_cases hn : has first (one s.pa s.pb first).1 (one s.pa s.pb first).2 4 (if r.short = true then 1 else 2) = true
    · rw [if_pos hn]
      cases first with
      | true => rw [← ge.1]; exact wf_game W ho ht (.inl ⟨rfl, rfl⟩)
      | false => rw [← ge.2]; exact wf_game W ho ht (.inr ⟨rfl, rfl⟩)
    · rw [if_neg hn]
      by_cases h4 : (one s.pa s.pb first).1 = 4 ∧ (one s.pa s.pb first).2 = 4
      · rw [if_pos h4]
        refine stay _ _ ((okP_game ht _ _).mpr ?_)
        left; exact ⟨Nat.le_refl _, Nat.le_refl _⟩
      · rw [if_neg h4]
        exact stay _ _ ((okP_game ht _ _).mpr (k3 hn h4))
end Pd

end
section
set_option Elab.async false
namespace Pd
open Ks301 (Rules Score over tie isLong setsOf okRules okGames okPoints okSet okSets can)
open Ks302 (point play setWon gameWon)

/-! ### a told score: the program's own tests -/
def cSet (r : Rules) (lng : Bool) (a b t : Nat) : Bool :=
  if (max a b = r.games + 1 ∧ min a b = r.games) ∧ lng = false then true
  else if t ≠ 0 then false
  else if max a b = r.games then decide (min a b + 2 ≤ max a b)
  else decide (max a b = min a b + 2) && (decide (r.games < max a b) && (lng || decide (max a b = r.games + 1)))
theorem cSet_eq (r : Rules) (l : List (Nat × Nat × Nat)) (a b t : Nat) : cSet r (isLong r l) a b t = okSet r l (a, b, t) := by
  unfold cSet okSet
  simp only
  have hmm : min a b ≤ max a b := Nat.le_trans (Nat.min_le_left _ _) (Nat.le_max_left _ _)
  generalize max a b = w at *
  generalize min a b = o at *
  generalize isLong r l = lng
  generalize r.games = G
  by_cases c1 : w = G + 1 ∧ o = G
  · obtain ⟨rfl, rfl⟩ := c1
    have h1 : (o + 1 == o) = false := beq_eq_false_iff_ne.mpr (Nat.succ_ne_self o)
    have h2 : (o + 2 == o + 1) = false := beq_eq_false_iff_ne.mpr (Nat.succ_ne_self (o + 1))
    rw [h1, h2]
    cases lng with
    | false =>
      rw [if_pos ⟨⟨rfl, rfl⟩, rfl⟩]
      simp
    | true =>
      rw [if_neg (fun z => Bool.noConfusion z.2), if_neg (fun z : o + 1 = o => Nat.succ_ne_self o z)]
      have h3 : decide (o + 1 = o + 2) = false := decide_eq_false (Nat.succ_ne_self (o + 1)).symm
      rw [h3]
      simp
  · rw [if_neg (fun z => c1 z.1)]
    have e3 : (w == G + 1 && o == G) = false := by
      rw [Bool.eq_false_iff]
      intro z
      rw [Bool.and_eq_true, beq_iff_eq, beq_iff_eq] at z
      exact c1 z
    by_cases ht : t = 0
    · subst ht
      rw [if_neg (fun z => z rfl)]
      by_cases c2 : w = G
      · subst c2
        rw [if_pos rfl]
        have h1 : (w == w + 1) = false := beq_eq_false_iff_ne.mpr (Nat.succ_ne_self w).symm
        have h2 : decide (w + 1 < w) = false := decide_eq_false (by omega)
        rw [h1, h2]
        simp
      · rw [if_neg c2]
        have h1 : (w == G) = false := beq_eq_false_iff_ne.mpr c2
        rw [h1, Bool.and_assoc (!lng), e3]
        cases lng with
        | false =>
          rw [Bool.eq_iff_iff]
          simp
          omega
        | true =>
          rw [Bool.eq_iff_iff]
          simp
          omega
    · rw [if_pos ht]
      have h0 : (t == 0) = false := beq_eq_false_iff_ne.mpr ht
      rw [h0, Bool.and_assoc (!lng), e3]
      simp
def cGames (r : Rules) (lng : Bool) (a b : Nat) : Bool :=
  if max a b < r.games then true else decide (a < b + 2 ∧ b < a + 2) && (decide (max a b = r.games) || lng)
theorem cGames_eq (r : Rules) (l : List (Nat × Nat × Nat)) (a b : Nat) : cGames r (isLong r l) a b = okGames r l a b := by
  rw [Bool.eq_iff_iff, okG_t]
  unfold cGames
  generalize isLong r l = lng
  generalize r.games = G
  by_cases c : max a b < G
  · rw [if_pos c]
    exact ⟨fun _ => .inl ⟨Nat.lt_of_le_of_lt (Nat.le_max_left _ _) c, Nat.lt_of_le_of_lt (Nat.le_max_right _ _) c⟩, fun _ => rfl⟩
  · rw [if_neg c, Bool.and_eq_true, Bool.or_eq_true, decide_eq_true_eq, decide_eq_true_eq]
    constructor
    · rintro ⟨h, h1 | h1⟩
      · exact .inr (.inl (by omega))
      · by_cases c2 : a ≤ G ∧ b ≤ G
        · exact .inr (.inl (by omega))
        · exact .inr (.inr ⟨h1, by omega⟩)
    · rintro (h | h | h)
      · exact absurd (Nat.max_lt.mpr h) c
      · exact ⟨by omega, .inl (by omega)⟩
      · exact ⟨by omega, .inr h.1⟩
def cPoints (r : Rules) (tb : Bool) (p q : Nat) : Bool :=
  if tb then decide (max p q < 7) || decide (max p q < min p q + 2)
  else if max p q < 4 then true else (!r.short && decide (max p q = 4)) && decide (min p q = 3)
theorem cPoints_fin (short : Bool) : ∀ (a b : Fin 5), ((if max a.val b.val < 4 then true else (!short && decide (max a.val b.val = 4)) && decide (min a.val b.val = 3)) = true ↔ okP short a.val b.val) := by
  cases short <;> decide
theorem cPoints_eq (r : Rules) (s : Score) : cPoints r (tie r s) s.pa s.pb = okPoints r s := by
  rw [Bool.eq_iff_iff]
  cases ht : tie r s with
  | true =>
    rw [okPoints_tie ht]
    unfold cPoints
    rw [if_pos rfl, Bool.or_eq_true, decide_eq_true_eq, decide_eq_true_eq, Nat.max_lt]
    exact or_congr Iff.rfl (by constructor <;> intro h <;> omega)
  | false =>
    rw [okPoints_game ht]
    unfold cPoints
    rw [if_neg (by decide)]
    by_cases c : s.pa < 5 ∧ s.pb < 5
    · exact cPoints_fin r.short ⟨s.pa, c.1⟩ ⟨s.pb, c.2⟩
    · have h5 : ¬ max s.pa s.pb < 5 := fun z => c (Nat.max_lt.mp z)
      rw [if_neg (by omega), decide_eq_false (show ¬ max s.pa s.pb = 4 by omega), Bool.and_false, Bool.false_and]
      exact ⟨fun h => (by cases h), fun h => absurd (okP.small h) c⟩

theorem okSet_ne {r : Rules} {l : List (Nat × Nat × Nat)} {a b t : Nat} (h : okSet r l (a, b, t) = true) : a ≠ b := by
  unfold okSet at h
  simp only [Bool.or_eq_true, Bool.and_eq_true, beq_iff_eq, decide_eq_true_eq] at h
  omega
/-- what can come about is in form -/
theorem okSets_wf {r : Rules} (ok : okRules r = true) : ∀ (l had : List (Nat × Nat × Nat)), setsOf true had ≤ r.sets → setsOf false had ≤ r.sets → had.length = setsOf true had + setsOf false had → okSets r had l = true → setsOf true (had ++ l) ≤ r.sets ∧ setsOf false (had ++ l) ≤ r.sets ∧ (had ++ l).length = setsOf true (had ++ l) + setsOf false (had ++ l)
  | [], had, ha, hb, hl, _ => by rw [List.append_nil]; exact ⟨ha, hb, hl⟩
  | x :: l, had, ha, hb, hl, h => by
    unfold okSets at h
    simp only [Bool.and_eq_true, Bool.not_eq_true'] at h
    obtain ⟨⟨h1, h2⟩, h3⟩ := h
    have o := over_f.mp h1
    obtain ⟨a, b, t⟩ := x
    have e : had ++ (a, b, t) :: l = (had ++ [(a, b, t)]) ++ l := by simp
    rw [e]
    have hab := okSet_ne h2
    refine okSets_wf ok l _ ?_ ?_ ?_ h3
    · rw [setsOf_t]; split <;> omega
    · rw [setsOf_f]; split <;> omega
    · rw [setsOf_t, setsOf_f, List.length_append, List.length_singleton]
      split <;> split <;> omega
theorem can_wf {r : Rules} {s : Score} (ok : okRules r = true) (h : can r s = true) : Wf r s := by
  unfold can at h
  rw [Bool.and_eq_true] at h
  have w := okSets_wf ok s.done [] (Nat.zero_le _) (Nat.zero_le _) rfl h.1
  rw [List.nil_append] at w
  refine ⟨ok, w.1, w.2.1, w.2.2, fun ho => ?_, fun ho => ?_⟩
  · have h2 := h.2
    rw [if_pos ho] at h2
    simpa [and_assoc] using h2
  · have h2 := h.2
    rw [if_neg (by rw [ho]; decide)] at h2
    simpa using h2
theorem wf_start {r : Rules} (ok : okRules r = true) : Wf r Ks301.start := wf_new ok (Nat.zero_le _) (Nat.zero_le _) rfl

/-! ### points one behind another -/
inductive Trail (r : Rules) : Score → List Bool → List Score → Prop
  | nil (s : Score) : Trail r s [] [s]
  | cons {s t : Score} {x : Bool} {l : List Bool} {ts : List Score} : point r s x = some t → Trail r t l ts → Trail r s (x :: l) (s :: ts)
theorem Trail.length {r : Rules} : ∀ {s : Score} {l : List Bool} {ts : List Score}, Trail r s l ts → ts.length = l.length + 1
  | _, _, _, .nil _ => rfl
  | _, _, _, .cons _ h => by rw [List.length_cons, List.length_cons, h.length]
theorem Trail.head {r : Rules} {s : Score} {l : List Bool} {ts : List Score} (h : Trail r s l ts) : ts[0]? = some s := by
  cases h <;> rfl
theorem Trail.snoc {r : Rules} : ∀ {s : Score} {l : List Bool} {ts : List Score} {x : Bool} {u v : Score}, Trail r s l (ts ++ [u]) → point r u x = some v → Trail r s (l ++ [x]) (ts ++ [u, v])
  | s, _, ts, x, u, v, h, e => by
    generalize hz : ts ++ [u] = zs at h
    induction h generalizing ts with
    | nil s =>
      match ts, hz with
      | [], hz =>
        have : u = s := by simpa using hz
        subst this
        exact .cons e (.nil v)
      | a :: ts, hz => simp at hz
    | cons e1 h1 ih =>
      match ts, hz with
      | [], hz =>
        have q := h1.length
        simp at hz
        rw [hz.2] at q
        simp at q
      | a :: ts, hz =>
        rw [List.cons_append, List.cons.injEq] at hz
        rw [hz.1]
        exact .cons e1 (ih ts hz.2)
theorem Trail.plays {r : Rules} : ∀ {s : Score} {l : List Bool} {ts : List Score} {u : Score} (k : Nat), Trail r s l ts → ts[l.length]? = some u → play r k s l = .ok u
  | s, _, _, u, k, .nil _, e => by
    have : s = u := by simpa using e
    subst this; rfl
  | s, x :: l, _, u, k, .cons e1 h1, e => by
    unfold Ks302.play
    rw [e1]
    exact Trail.plays (k + 1) h1 (by simpa using e)
theorem play_append {r : Rules} : ∀ (l1 l2 : List Bool) (k : Nat) (s : Score), play r k s (l1 ++ l2) = (match play r k s l1 with | .ok t => play r (k + l1.length) t l2 | .error e => .error e)
  | [], l2, k, s => by simp [play]
  | x :: l1, l2, k, s => by
    rw [List.cons_append]
    rw [play, play]
    cases point r s x with
    | none => rfl
    | some t =>
      simp only
      rw [play_append l1 l2 (k + 1) t, List.length_cons, show k + 1 + l1.length = k + (l1.length + 1) by omega]
/-- the match is over ahead of a point that is still to come -/
theorem Trail.stop {r : Rules} {s : Score} {l : List Bool} {ts : List Score} {u : Score} (h : Trail r s l ts) (e : ts[l.length]? = some u) (ho : over r u.done = true) (x : Bool) (l2 : List Bool) : ∃ k, play r 0 s (l ++ x :: l2) = .error k := by
  rw [play_append, h.plays 0 e]
  refine ⟨0 + l.length, ?_⟩
  simp only
  rw [play, point_over ho]
theorem Trail.take {r : Rules} : ∀ {s : Score} {l : List Bool} {ts : List Score} (i : Nat), Trail r s l ts → i ≤ l.length → Trail r s (l.take i) (ts.take (i + 1))
  | s, _, _, 0, h, _ => by
    cases h with
    | nil => exact .nil s
    | cons e h => exact .nil s
  | s, _, _, i + 1, .cons e h, hi => by
    rw [List.take_succ_cons, List.take_succ_cons]
    exact .cons e (Trail.take i h (by simpa using hi))
theorem Trail.wf {r : Rules} : ∀ {s : Score} {l : List Bool} {ts : List Score}, Trail r s l ts → Wf r s → ∀ u ∈ ts, Wf r u
  | s, _, _, .nil _, W, u, hu => by
    have : u = s := by simpa using hu
    subst this; exact W
  | s, _, _, .cons (t := t) (x := x) e h, W, u, hu => by
    rcases List.mem_cons.mp hu with rfl | hu
    · exact W
    · refine Trail.wf h ?_ u hu
      cases ho : over r s.done with
      | true => rw [point_over ho] at e; cases e
      | false =>
        rw [point_aft W ho] at e
        cases e
        exact wf_aft W ho x

/-- the desk's own invariant: who won each point, in order; the scores behind them -/
structure Inv (a : Ks303.Abs) (ws : List Bool) (ts : List Score) : Prop where
  bnd : a.on = true → can a.rules a.first = true ∧ Ks301.bounded a.first = true
  on : a.on = true → okRules a.rules = true ∧ Wf a.rules a.first ∧ Trail a.rules a.first ws ts ∧ ts[ws.length]? = some a.score
  off : a.on = false → ws = [] ∧ ts = []
  pts : a.points = ws.reverse
  few : ws.length ≤ 1000
/-- one put right -/
theorem same_idx (k : Nat) : ∀ (l : List Bool) (n : Nat), (k < n ∨ n + l.length ≤ k) → (l.zipIdx n).map (fun x => if x.2 = k then !x.1 else x.1) = l
  | [], _, _ => rfl
  | x :: l, n, h => by
    rw [List.length_cons] at h
    rw [List.zipIdx_cons, List.map_cons, same_idx k l (n + 1) (by omega), if_neg (show ¬ n = k by omega)]
theorem flip_gen (l1 l2 : List Bool) (x : Bool) : (((l1 ++ x :: l2).reverse.zipIdx.map fun z => if z.2 = l2.length then !z.1 else z.1).reverse) = l1 ++ (!x) :: l2 := by
  rw [List.reverse_append, List.reverse_cons, List.zipIdx_append, List.zipIdx_append, List.map_append, List.map_append, same_idx _ l2.reverse 0 (.inr (by rw [List.length_reverse, Nat.zero_add]; exact Nat.le_refl _)),
    same_idx _ l1.reverse _ (.inl (by rw [List.length_append, List.length_reverse]; exact Nat.lt_of_lt_of_le (Nat.lt_succ_self _) (Nat.le_add_left _ _)))]
  rw [List.length_reverse, Nat.zero_add]
  show ((l2.reverse ++ [if l2.length = l2.length then !x else x]) ++ l1.reverse).reverse = _
  rw [if_pos rfl, List.reverse_append, List.reverse_append, List.reverse_reverse, List.reverse_reverse]
  rfl
theorem flip_eq (ws : List Bool) (k : Nat) (hk : k < ws.length) : ((ws.reverse.zipIdx.map fun x => if x.2 = k then !x.1 else x.1).reverse) = ws.take (ws.length - 1 - k) ++ (!(ws.getD (ws.length - 1 - k) false)) :: ws.drop (ws.length - k) := by
  have e2 : ws.length - k = ws.length - 1 - k + 1 := by omega
  have hp : ws.length - 1 - k < ws.length := by omega
  rw [e2]
  have e3 : (ws.drop (ws.length - 1 - k + 1)).length = k := by
    rw [List.length_drop]
    omega
  generalize ws.length - 1 - k = p at *
  have e : ws = ws.take p ++ ws[p] :: ws.drop (p + 1) := by
    rw [← List.drop_eq_getElem_cons hp, List.take_append_drop]
  have e4 : ws.getD p false = ws[p] := by
    rw [List.getD_eq_getElem?_getD, List.getElem?_eq_getElem hp]
    rfl
  have g := flip_gen (ws.take p) (ws.drop (p + 1)) ws[p]
  rw [e3, ← e] at g
  rw [e4]
  exact g
end Pd

end
section
set_option Elab.async false
namespace Pd
open Ks301 (Rules Score over tie isLong setsOf okRules okGames okPoints okSet okSets can bounded)
open Ks302 (point play setWon gameWon)
open Ks303 (act Abs)

/-! ### the desk's calls over its invariant -/
theorem on_iff {a : Abs} : a.on = true ↔ a.rules.sets ≠ 0 := by unfold Abs.on; simp
theorem can_start {r : Rules} (ok : okRules r = true) : can r Ks301.start = true := by
  have h := okR.mp ok
  have W := wf_start ok
  have ho : over r Ks301.start.done = false := over_f.mpr ⟨by show 0 < r.sets; omega, by show 0 < r.sets; omega⟩
  have g := W.go ho
  unfold can
  rw [if_neg (by rw [ho]; decide), g.1, g.2]
  rfl
theorem Inv.start : Inv ({} : Abs) [] [] := ⟨fun h => (by cases h), fun h => (by cases h), fun _ => ⟨rfl, rfl⟩, rfl, Nat.zero_le _⟩
theorem Inv.begin {r : Rules} (ok : okRules r = true) : Inv ({ rules := r } : Abs) [] [Ks301.start] := by
  have h1 := okR.mp ok
  refine ⟨fun _ => ⟨can_start ok, rfl⟩, fun _ => ⟨ok, wf_start ok, .nil _, rfl⟩, fun h => ?_, rfl, Nat.zero_le _⟩
  have : ({ rules := r } : Abs).on = true := on_iff.mpr (by show r.sets ≠ 0; omega)
  rw [h] at this; cases this
theorem Inv.told {a : Abs} {ws : List Bool} {ts : List Score} {s : Score} (I : Inv a ws ts) (on : a.on = true) (hc : can a.rules s = true) (hb : bounded s = true) : Inv { a with first := s, points := [], score := s } [] [s] := by
  obtain ⟨ok, _, _, _⟩ := I.on on
  refine ⟨fun _ => ⟨hc, hb⟩, fun _ => ⟨ok, can_wf ok hc, .nil _, rfl⟩, fun h => ?_, rfl, Nat.zero_le _⟩
  have : ({ a with first := s, points := [], score := s } : Abs).on = a.on := rfl
  rw [this, on] at h; cases h
theorem Inv.wf {a : Abs} {ws : List Bool} {ts : List Score} (I : Inv a ws ts) (on : a.on = true) : Wf a.rules a.score := by
  obtain ⟨_, W, T, e⟩ := I.on on
  exact T.wf W _ (List.mem_of_getElem? e)
theorem Inv.split {a : Abs} {ws : List Bool} {ts : List Score} (I : Inv a ws ts) (on : a.on = true) : ∃ ts', ts = ts' ++ [a.score] ∧ ts'.length = ws.length := by
  obtain ⟨_, _, T, e⟩ := I.on on
  have hl := T.length
  refine ⟨ts.take ws.length, ?_, by rw [List.length_take]; omega⟩
  have h1 : ts = ts.take ws.length ++ ts.drop ws.length := (List.take_append_drop _ _).symm
  have h2 : ts.drop ws.length = [a.score] := by
    have hlt : ws.length < ts.length := by omega
    rw [List.drop_eq_getElem_cons hlt]
    have e2 : ts[ws.length] = a.score := by
      rw [List.getElem?_eq_getElem hlt] at e
      exact Option.some.inj e
    rw [e2, List.drop_eq_nil_of_le (by omega)]
  rw [h2] at h1
  exact h1
theorem Inv.point {a : Abs} {ws : List Bool} {ts : List Score} (I : Inv a ws ts) (on : a.on = true) (ho : over a.rules a.score.done = false) (hl : ws.length < 1000) (x : Bool) :
    Inv { a with points := x :: a.points, score := aft a.rules a.score x } (ws ++ [x]) (ts ++ [aft a.rules a.score x]) := by
  obtain ⟨ok, W, T, e⟩ := I.on on
  have hp := point_aft (I.wf on) ho x
  obtain ⟨ts', rfl, htl⟩ := I.split on
  refine ⟨I.bnd, fun _ => ⟨ok, W, ?_, ?_⟩, fun h => ?_, ?_, ?_⟩
  · rw [List.append_assoc]
    exact T.snoc hp
  · show (ts' ++ [a.score] ++ [aft a.rules a.score x])[(ws ++ [x]).length]? = _
    rw [List.getElem?_append_right (by simp; omega)]
    simp [htl]
  · have h' : a.on = false := h
    rw [on] at h'; cases h'
  · show x :: a.points = _
    rw [I.pts, List.reverse_append]; rfl
  · rw [List.length_append]; exact hl
theorem act_point {a : Abs} {ws : List Bool} {ts : List Score} (I : Inv a ws ts) (on : a.on = true) (w : Nat) (hw : ¬ 1 < w) (ho : over a.rules a.score.done = false) (hl : ws.length < 1000) :
    act a (.point w) = ({ a with points := (w == 0) :: a.points, score := aft a.rules a.score (w == 0) }, Ks303.no (if over a.rules (aft a.rules a.score (w == 0)).done then 1 else 0)) := by
  simp only [act]
  rw [if_neg (by rw [on]; decide), if_neg hw, point_aft (I.wf on) ho]
  simp only
  rw [if_neg]
  rw [I.pts, List.length_reverse]
  show ¬ 1000 ≤ ws.length
  omega
theorem act_point_many {a : Abs} {ws : List Bool} {ts : List Score} (I : Inv a ws ts) (on : a.on = true) (w : Nat) (hw : ¬ 1 < w) (ho : over a.rules a.score.done = false) (hl : ¬ ws.length < 1000) :
    act a (.point w) = (a, Ks303.no (-12)) := by
  simp only [act]
  rw [if_neg (by rw [on]; decide), if_neg hw, point_aft (I.wf on) ho]
  simp only
  rw [if_pos]
  rw [I.pts, List.length_reverse]
  show 1000 ≤ ws.length
  omega
theorem act_point_over {a : Abs} (on : a.on = true) (w : Nat) (hw : ¬ 1 < w) (ho : over a.rules a.score.done = true) : act a (.point w) = (a, Ks303.no (-17)) := by
  simp only [act]
  rw [if_neg (by rw [on]; decide), if_neg hw, point_over ho]
theorem act_point_who {a : Abs} (on : a.on = true) (w : Nat) (hw : 1 < w) : act a (.point w) = (a, Ks303.no (-22)) := by
  simp only [act]
  rw [if_neg (by rw [on]; decide), if_pos hw]
theorem act_point_off {a : Abs} (on : a.on = false) (w : Nat) : act a (.point w) = (a, Ks303.no (-61)) := by
  simp only [act]
  rw [if_pos on]

theorem Inv.on_of {a : Abs} {ws : List Bool} {ts : List Score} (I : Inv a ws ts) (h : ws ≠ []) : a.on = true := by
  cases e : a.on with
  | true => rfl
  | false => exact absurd (I.off e).1 h
theorem act_back_none {a : Abs} {ts : List Score} (I : Inv a [] ts) : act a .back = (a, Ks303.no (-2)) := by
  have h : a.points = [] := I.pts
  simp only [act]
  rw [h]
theorem act_back {a : Abs} {ws : List Bool} {x : Bool} {ts : List Score} (I : Inv a (ws ++ [x]) ts) : ∃ a' ts' u v, ts = ts' ++ [u, v] ∧ act a .back = (a', Ks303.no (ws.length : Nat)) ∧ Inv a' ws (ts' ++ [u]) ∧ a'.rules = a.rules ∧ a'.score = u := by
  have on := I.on_of (by simp)
  obtain ⟨ok, W, T, e⟩ := I.on on
  have hl := T.length
  rw [List.length_append] at hl
  have hp : a.points = x :: ws.reverse := by rw [I.pts, List.reverse_append]; rfl
  have T1 := T.take ws.length (by simp)
  rw [List.take_left'] at T1
  · have hx : ∃ ts' u v, ts = ts' ++ [u, v] ∧ ts'.length = ws.length := by
      obtain ⟨t1, rfl, h1⟩ := I.split on
      rw [List.length_append] at h1
      rcases List.eq_nil_or_concat t1 with rfl | ⟨t2, u, rfl⟩
      · simp at h1
      · refine ⟨t2, u, a.score, by simp, ?_⟩
        simp at h1
        exact h1
    obtain ⟨ts', u, v, rfl, hl'⟩ := hx
    have e1 : (ts' ++ [u, v]).take (ws.length + 1) = ts' ++ [u] := by
      rw [← hl', List.take_append, List.take_of_length_le (Nat.le_succ _)]; simp
    rw [e1] at T1
    have e2 : (ts' ++ [u])[ws.length]? = some u := by rw [← hl']; simp
    have hplay := T1.plays 0 e2
    refine ⟨{ a with points := ws.reverse, score := u }, ts', u, v, rfl, ?_, ⟨I.bnd, fun _ => ⟨ok, W, T1, e2⟩, fun h => ?_, rfl, ?_⟩, rfl, rfl⟩
    · unfold act
      rw [hp]
      simp only [List.reverse_reverse, hplay, List.length_reverse]
    · have h' : a.on = false := h
      rw [on] at h'; cases h'
    · have := I.few; rw [List.length_append] at this; omega
  · rfl

theorem act_right_none {a : Abs} {ws : List Bool} {ts : List Score} (I : Inv a ws ts) (k : Nat) (hk : ws.length ≤ k) : act a (.right k) = (a, Ks303.no (-2)) := by
  simp only [act]
  rw [if_pos (by rw [I.pts, List.length_reverse]; exact hk)]
/-- the points as they would have been -/
def flipped (ws : List Bool) (k : Nat) : List Bool := ws.take (ws.length - 1 - k) ++ (!(ws.getD (ws.length - 1 - k) false)) :: ws.drop (ws.length - k)
theorem flipped_length (ws : List Bool) (k : Nat) (hk : k < ws.length) : (flipped ws k).length = ws.length := by
  unfold flipped
  rw [List.length_append, List.length_cons, List.length_take, List.length_drop, Nat.min_eq_left (Nat.le_trans (Nat.sub_le _ _) (Nat.sub_le _ _))]
  omega
theorem act_right_no {a : Abs} {ws : List Bool} {ts : List Score} (I : Inv a ws ts) (k : Nat) (hk : k < ws.length) {n : Nat} (hp : play a.rules 0 a.first (flipped ws k) = .error n) : act a (.right k) = (a, Ks303.no (-33)) := by
  simp only [act]
  rw [if_neg (by rw [I.pts, List.length_reverse]; omega)]
  simp only [I.pts, flip_eq ws k hk]
  rw [show ws.take (ws.length - 1 - k) ++ (!(ws.getD (ws.length - 1 - k) false)) :: ws.drop (ws.length - k) = flipped ws k from rfl, hp]
theorem act_right {a : Abs} {ws : List Bool} {ts ts' : List Score} (I : Inv a ws ts) (k : Nat) (hk : k < ws.length) (T : Trail a.rules a.first (flipped ws k) ts') :
    ∃ a', act a (.right k) = (a', Ks303.no 0) ∧ Inv a' (flipped ws k) ts' ∧ a'.rules = a.rules := by
  have on := I.on_of (fun h => by rw [h] at hk; simp at hk)
  obtain ⟨ok, W, _, _⟩ := I.on on
  have hl := T.length
  obtain ⟨u, hu⟩ : ∃ u, ts'[(flipped ws k).length]? = some u := ⟨_, List.getElem?_eq_getElem (by omega)⟩
  have hplay := T.plays 0 hu
  refine ⟨{ a with points := ws.reverse.zipIdx.map (fun x => if x.2 = k then !x.1 else x.1), score := u }, ?_, ⟨I.bnd, fun _ => ⟨ok, W, T, hu⟩, fun h => ?_, ?_, ?_⟩, rfl⟩
  · unfold act
    simp only [I.pts, flip_eq ws k hk]
    rw [if_neg (show ¬ ws.reverse.length ≤ k by rw [List.length_reverse]; omega)]
    rw [show ws.take (ws.length - 1 - k) ++ (!(ws.getD (ws.length - 1 - k) false)) :: ws.drop (ws.length - k) = flipped ws k from rfl, hplay]
  · have h' : a.on = false := h
    rw [on] at h'; cases h'
  · rw [← List.reverse_reverse (ws.reverse.zipIdx.map _), flip_eq ws k hk]; rfl
  · rw [flipped_length ws k hk]; exact I.few

end Pd

end
section
set_option Elab.async false
namespace Pd
/-! ### a line of calls -/
open PyFlat (put put1 putRow putRows told played)
def stt {S : Type} (step : S → List (List Int) → S × List Int) : S → List (List (List Int)) → S
  | s, [] => s
  | s, c :: r => stt step (step s c).1 r
theorem stt_snoc {S : Type} (step : S → List (List Int) → S × List Int) : ∀ (cs : List (List (List Int))) (s : S) (c : List (List Int)), stt step s (cs ++ [c]) = (step (stt step s cs) c).1
  | [], _, _ => rfl
  | _ :: cs, s, c => stt_snoc step cs _ c
theorem played_snoc {S : Type} (step : S → List (List Int) → S × List Int) : ∀ (cs : List (List (List Int))) (s : S) (c : List (List Int)), played step s (cs ++ [c]) = played step s cs ++ [(step (stt step s cs) c).2]
  | [], _, _ => rfl
  | d :: cs, s, c => congrArg (List.cons (step s d).2) (played_snoc step cs _ c)
theorem told_snoc (l : List (List Int)) (a : List Int) : told (l ++ [a]) = told l ++ ((a.length : Int) :: a) := by
  unfold told; rw [List.flatMap_append]; simp
theorem put_append : ∀ (cs ds : List (List (List Int))), put (cs ++ ds) = put cs ++ put ds
  | [], _ => rfl
  | c :: cs, ds => by rw [List.cons_append]; show put1 c ++ put (cs ++ ds) = (put1 c ++ put cs) ++ put ds; rw [put_append cs ds, List.append_assoc]

/-- the nine calls, as a line may hold them -/
inductive Is : List (List Int) → Prop
  | begin (a b d e : Nat) : Is [[0, (a : Int), (b : Int), (d : Int), (e : Int)]]
  | told (done now : List Nat) (h3 : done.length % 3 = 0) (h4 : now.length = 4) : Is [[1], done.map Int.ofNat, now.map Int.ofNat]
  | point (w : Nat) : Is [[2, (w : Int)]]
  | back : Is [[3]]
  | right (k : Nat) : Is [[4, (k : Int)]]
  | score : Is [[5]]
  | next : Is [[6]]
  | need (w : Nat) : Is [[7, (w : Int)]]
  | count : Is [[8]]
theorem nat_of {z : Int} {b : Nat} (h : Ks303Neutral.natural z b = true) : ∃ n : Nat, z = (n : Int) := by
  unfold Ks303Neutral.natural at h
  simp only [Bool.and_eq_true, decide_eq_true_eq] at h
  exact ⟨z.toNat, by omega⟩
theorem nats_of {l : List Int} {b : Nat} (h : l.all (fun z => Ks303Neutral.natural z b) = true) : ∃ ns : List Nat, l = ns.map Int.ofNat := by
  induction l with
  | nil => exact ⟨[], rfl⟩
  | cons z l ih =>
    rw [List.all_cons, Bool.and_eq_true] at h
    obtain ⟨ns, rfl⟩ := ih h.2
    obtain ⟨n, rfl⟩ := nat_of h.1
    exact ⟨n :: ns, rfl⟩
theorem len_one {a : List Int} (h : 1 = a.length) : ∃ x, a = [x] := by
  cases a with
  | nil => cases h
  | cons x a => exact ⟨x, by rw [List.eq_nil_of_length_eq_zero (Nat.succ.inj h).symm]⟩
theorem len_none {t : Type} {a : List t} (h : 0 = a.length) : a = [] := List.eq_nil_of_length_eq_zero h.symm
theorem one_way {t : Type} {c : Prop} [Decidable c] {x y v : t} {G : Prop} (h : (if c then x else y) = v) (h1 : c → x = v → G) (h2 : y = v → G) : G := by
  by_cases k : c
  · rw [if_pos k] at h
    exact h1 k h
  · rw [if_neg k] at h
    exact h2 h
theorem len_two {t : Type} {a : List t} (h : 2 = a.length) : ∃ x y, a = [x, y] := by
  match a, h with
  | [x, y], _ => exact ⟨x, y, rfl⟩
theorem len_four {t : Type} {a : List t} (h : 4 = a.length) : ∃ x y u v, a = [x, y, u, v] := by
  match a, h with
  | [x, y, u, v], _ => exact ⟨x, y, u, v, rfl⟩
theorem lens {m n a b : Nat} (h : some (m, n) = some (a, b)) : m = a ∧ n = b := Prod.mk.inj (Option.some.inj h)
theorem told_form {ns ms : List Nat} (h : Ks303Neutral.form [[1], ns.map Int.ofNat, ms.map Int.ofNat] = true) : ns.length % 3 = 0 ∧ ms.length = 4 := by
  have e : Ks303Neutral.num [[1], ns.map Int.ofNat, ms.map Int.ofNat] 0 0 = 1 := rfl
  unfold Ks303Neutral.form at h
  rw [e] at h
  have e2 : Ks303Neutral.forms[1]? = some ([], [32, 32]) := rfl
  rw [e2] at h
  simp only [Bool.and_eq_true] at h
  have h5 := h.2
  simpa using h5
/-- a call of the shape that may be asked is one of the nine -/
theorem is_of {c : List (List Int)} (h0 : PyFlat.okCall PyKs303.shape c) (h1 : Ks303Neutral.asked1 (PyKs303.whole c) = true) (h2 : Ks303Neutral.form (PyKs303.whole c) = true) : Is c ∧ PyKs303.whole c = c := by
  obtain ⟨p, a, xs, rfl, hs⟩ := h0
  unfold PyKs303.shape at hs
  refine one_way hs (fun e hs => ?_) fun hs => one_way hs (fun e hs => ?_) fun hs => one_way hs (fun e hs => ?_) fun hs => one_way hs (fun e hs => ?_) fun hs => one_way hs (fun e hs => ?_) fun hs =>
    one_way hs (fun e hs => ?_) fun hs => one_way hs (fun e hs => ?_) fun hs => one_way hs (fun e hs => ?_) fun hs => one_way hs (fun e hs => ?_) fun hs => (by cases hs)
  · clear h2
    subst e
    obtain ⟨ea, ex⟩ := lens hs
    clear hs
    obtain ⟨x, y, u, v, rfl⟩ := len_four ea
    have ex := len_none ex
    subst ex
    have h1' : (Ks303Neutral.natural x 32 && Ks303Neutral.natural y 32 && Ks303Neutral.natural u 32 && Ks303Neutral.natural v 32) = true := h1
    rw [Bool.and_eq_true, Bool.and_eq_true, Bool.and_eq_true] at h1'
    obtain ⟨⟨⟨g1, g2⟩, g3⟩, g4⟩ := h1'
    obtain ⟨_, rfl⟩ := nat_of g1
    obtain ⟨_, rfl⟩ := nat_of g2
    obtain ⟨_, rfl⟩ := nat_of g3
    obtain ⟨_, rfl⟩ := nat_of g4
    exact ⟨.begin .., rfl⟩
  · subst e
    obtain ⟨ea, ex⟩ := lens hs
    clear hs
    have ea := len_none ea
    subst ea
    obtain ⟨x, y, rfl⟩ := len_two ex
    have h1' : (x.all (fun z => Ks303Neutral.natural z 32) && y.all (fun z => Ks303Neutral.natural z 32)) = true := h1
    rw [Bool.and_eq_true] at h1'
    obtain ⟨ns, rfl⟩ := nats_of h1'.1
    obtain ⟨ms, rfl⟩ := nats_of h1'.2
    have h3 := told_form h2
    exact ⟨.told ns ms h3.1 h3.2, rfl⟩
  · clear h2
    subst e
    obtain ⟨ea, ex⟩ := lens hs
    clear hs
    obtain ⟨x, rfl⟩ := len_one ea
    have ex := len_none ex
    subst ex
    obtain ⟨_, rfl⟩ := nat_of (show Ks303Neutral.natural x 32 = true from h1)
    exact ⟨.point _, rfl⟩
  · clear h1 h2
    subst e
    obtain ⟨ea, ex⟩ := lens hs
    clear hs
    have ea := len_none ea
    have ex := len_none ex
    subst ea ex
    exact ⟨.back, rfl⟩
  · clear h2
    subst e
    obtain ⟨ea, ex⟩ := lens hs
    clear hs
    obtain ⟨x, rfl⟩ := len_one ea
    have ex := len_none ex
    subst ex
    obtain ⟨_, rfl⟩ := nat_of (show Ks303Neutral.natural x 32 = true from h1)
    exact ⟨.right _, rfl⟩
  · clear h1 h2
    subst e
    obtain ⟨ea, ex⟩ := lens hs
    clear hs
    have ea := len_none ea
    have ex := len_none ex
    subst ea ex
    exact ⟨.score, rfl⟩
  · clear h1 h2
    subst e
    obtain ⟨ea, ex⟩ := lens hs
    clear hs
    have ea := len_none ea
    have ex := len_none ex
    subst ea ex
    exact ⟨.next, rfl⟩
  · clear h2
    subst e
    obtain ⟨ea, ex⟩ := lens hs
    clear hs
    obtain ⟨x, rfl⟩ := len_one ea
    have ex := len_none ex
    subst ex
    obtain ⟨_, rfl⟩ := nat_of (show Ks303Neutral.natural x 32 = true from h1)
    exact ⟨.need _, rfl⟩
  · clear h1 h2
    subst e
    obtain ⟨ea, ex⟩ := lens hs
    clear hs
    have ea := len_none ea
    have ex := len_none ex
    subst ea ex
    exact ⟨.count, rfl⟩
/-- the numbers that a line's answers have -/
theorem runs_played : ∀ (cs : List (List (List Int))) (s : Ks303Neutral.S), Ks303Neutral.runs s cs = played Ks303Neutral.step s cs
  | [], _ => rfl
  | c :: cs, s => congrArg (List.cons _) (runs_played cs _)
end Pd

end
section
set_option Elab.async false
namespace Pd
open Ks301 (Rules Score over tie isLong setsOf okRules okGames okPoints okSet okSets can bounded)
open Ks303Neutral (triples scoreOf)
/-! ### told numbers as triples -/
theorem triples_len : ∀ (n : Nat) (ns : List Nat), ns.length = 3 * n → (triples ns).length = n
  | 0, ns, h => by
    have : ns = [] := List.eq_nil_of_length_eq_zero h
    subst this; rfl
  | n + 1, a :: b :: c :: l, h => by
    have h' : l.length + 1 + 1 + 1 = 3 * (n + 1) := h
    show (triples l).length + 1 = n + 1
    rw [triples_len n l (by omega)]
  | n + 1, [], h => by simp at h
  | n + 1, [a], h => by have h' : 1 = 3 * (n + 1) := h; omega
  | n + 1, [a, b], h => by have h' : 2 = 3 * (n + 1) := h; omega
theorem triples_get : ∀ (n : Nat) (ns : List Nat) (i : Nat), ns.length = 3 * n → i < n → ∃ a b c, (triples ns)[i]? = some (a, b, c) ∧ ns[3 * i]? = some a ∧ ns[3 * i + 1]? = some b ∧ ns[3 * i + 2]? = some c
  | 0, _, i, _, h => absurd h (Nat.not_lt_zero i)
  | n + 1, a :: b :: c :: l, 0, _, _ => ⟨a, b, c, rfl, rfl, rfl, rfl⟩
  | n + 1, a :: b :: c :: l, i + 1, h, hi => by
    have h' : l.length + 1 + 1 + 1 = 3 * (n + 1) := h
    obtain ⟨x, y, z, h1, h2, h3, h4⟩ := triples_get n l i (by omega) (by omega)
    refine ⟨x, y, z, h1, ?_, ?_, ?_⟩
    · rw [show 3 * (i + 1) = 3 * i + 1 + 1 + 1 by omega]; exact h2
    · rw [show 3 * (i + 1) + 1 = 3 * i + 1 + 1 + 1 + 1 by omega]; exact h3
    · rw [show 3 * (i + 1) + 2 = 3 * i + 2 + 1 + 1 + 1 by omega]; exact h4
  | n + 1, [], _, h, _ => by simp at h
  | n + 1, [a], _, h, _ => by have h' : 1 = 3 * (n + 1) := h; omega
  | n + 1, [a, b], _, h, _ => by have h' : 2 = 3 * (n + 1) := h; omega
/-- a number above 60 -/
theorem bounded_iff : ∀ (n : Nat) (ns : List Nat) (a b c d : Nat), ns.length = 3 * n → (bounded (scoreOf ns [a, b, c, d]) = true ↔ n ≤ 5 ∧ (∀ x ∈ ns, x ≤ 60) ∧ a ≤ 60 ∧ b ≤ 60 ∧ c ≤ 60 ∧ d ≤ 60) := by
  intro n ns a b c d h
  have hall : ∀ (n : Nat) (ns : List Nat), ns.length = 3 * n → ((triples ns).all (fun x => decide (x.1 ≤ Ks301.MOST) && decide (x.2.1 ≤ Ks301.MOST) && decide (x.2.2 ≤ Ks301.MOST)) = true ↔ ∀ x ∈ ns, x ≤ 60) := by
    intro n
    induction n with
    | zero =>
      intro ns h
      have : ns = [] := List.eq_nil_of_length_eq_zero h
      subst this; simp [triples]
    | succ n ih =>
      intro ns h
      match ns, h with
      | x :: y :: z :: l, h =>
        have h' : l.length + 1 + 1 + 1 = 3 * (n + 1) := h
        show ((decide (x ≤ Ks301.MOST) && decide (y ≤ Ks301.MOST) && decide (z ≤ Ks301.MOST)) && (triples l).all _) = true ↔ _
        rw [Bool.and_eq_true, ih l (by omega)]
        simp only [Bool.and_eq_true, decide_eq_true_eq, List.forall_mem_cons, and_assoc]
        exact Iff.rfl
      | [], h => simp at h
      | [x], h => have h' : 1 = 3 * (n + 1) := h; omega
      | [x, y], h => have h' : 2 = 3 * (n + 1) := h; omega
  show ((((((decide ((triples ns).length ≤ 5) && (triples ns).all _) && decide (a ≤ Ks301.MOST)) && decide (b ≤ Ks301.MOST)) && decide (c ≤ Ks301.MOST)) && decide (d ≤ Ks301.MOST)) = true) ↔ _
  rw [triples_len n ns h]
  simp only [Bool.and_eq_true, decide_eq_true_eq]
  rw [hall n ns h]
  simp [Ks301.MOST, and_assoc]
/-- the sets, one more looked at -/
theorem okSets_step {r : Rules} {tri : List (Nat × Nat × Nat)} {i : Nat} {x : Nat × Nat × Nat} (h : tri[i]? = some x) :
    okSets r (tri.take i) (tri.drop i) = (!over r (tri.take i) && okSet r (tri.take i) x && okSets r (tri.take (i + 1)) (tri.drop (i + 1))) := by
  have hi : i < tri.length := (List.getElem?_eq_some_iff.mp h).1
  have e1 : tri.drop i = x :: tri.drop (i + 1) := by
    rw [List.drop_eq_getElem_cons hi, (List.getElem?_eq_some_iff.mp h).2]
  have e2 : tri.take (i + 1) = tri.take i ++ [x] := by
    rw [List.take_succ, h]; rfl
  rw [e1, e2]
  rfl
theorem take_one_more {tri : List (Nat × Nat × Nat)} {i : Nat} {x : Nat × Nat × Nat} (h : tri[i]? = some x) : tri.take (i + 1) = tri.take i ++ [x] := by
  rw [List.take_succ, h]; rfl
end Pd

end
section
set_option Elab.async false
namespace Pd
open Ks301 (Rules Score over tie isLong setsOf okRules okGames okPoints okSet okSets can bounded)
open Ks302 (point play setWon gameWon)
/-! ### sets that can be, point by point; how large the numbers get -/
theorem okSets_snoc {r : Rules} : ∀ (l had : List (Nat × Nat × Nat)) (x : Nat × Nat × Nat), okSets r had (l ++ [x]) = (okSets r had l && (!over r (had ++ l) && okSet r (had ++ l) x))
  | [], had, x => by
    rw [List.nil_append, List.append_nil]
    show (!over r had && okSet r had x && true) = (true && _)
    rw [Bool.and_true, Bool.true_and]
  | y :: l, had, x => by
    have e : had ++ y :: l = (had ++ [y]) ++ l := by simp
    rw [List.cons_append]
    show (!over r had && okSet r had y && okSets r (had ++ [y]) (l ++ [x])) = ((!over r had && okSet r had y && okSets r (had ++ [y]) l) && _)
    rw [okSets_snoc l, e, ← Bool.and_assoc]
/-- what a score keeps besides -/
structure Bd (r : Rules) (m : Nat) (s : Score) : Prop where
  sets : okSets r [] s.done = true
  g : s.ga + s.gb ≤ 120 + m
  p : s.pa + s.pb ≤ 120 + m
  d : ∀ x ∈ s.done, x.1 + x.2.1 ≤ 121 + m ∧ 2 * x.2.2 ≤ 121 + m
theorem Bd.of {r : Rules} {s : Score} (hc : can r s = true) (hb : bounded s = true) : Bd r 0 s := by
  unfold can at hc
  unfold bounded at hb
  rw [Bool.and_eq_true] at hc
  simp only [Bool.and_eq_true, decide_eq_true_eq, List.all_eq_true] at hb
  obtain ⟨⟨⟨⟨⟨_, h1⟩, h2⟩, h3⟩, h4⟩, h5⟩ := hb
  have hM : Ks301.MOST = 60 := rfl
  exact ⟨hc.1, by omega, by omega, fun x hx => by have := h1 x hx; omega⟩
theorem Bd.mono {r : Rules} {m n : Nat} {s : Score} (B : Bd r m s) (h : m ≤ n) : Bd r n s :=
  ⟨B.sets, Nat.le_trans B.g (by omega), Nat.le_trans B.p (by omega), fun x hx => by have := B.d x hx; omega⟩
theorem Bd.set {r : Rules} {m : Nat} {s : Score} {a b t : Nat} (B : Bd r m s) (ho : over r s.done = false) (hk : okSet r s.done (a, b, t) = true) (h1 : a + b ≤ 121 + m) (h2 : 2 * t ≤ 121 + m) : Bd r m (aftSet s (a, b) t) := by
  refine ⟨?_, by show 0 + 0 ≤ _; omega, by show 0 + 0 ≤ _; omega, fun x hx => ?_⟩
  · show okSets r [] (s.done ++ [(a, b, t)]) = true
    rw [okSets_snoc, B.sets, List.nil_append, ho, hk]
    rfl
  · rcases List.mem_append.mp hx with h | h
    · exact B.d x h
    · rw [List.mem_singleton.mp h]
      exact ⟨h1, h2⟩
theorem okSet_t {r : Rules} {l : List (Nat × Nat × Nat)} {a b t : Nat} : okSet r l (a, b, t) = true ↔ (max a b = r.games ∧ min a b + 2 ≤ max a b ∧ t = 0) ∨ (max a b = r.games + 1 ∧ min a b + 2 = max a b ∧ t = 0) ∨
    (isLong r l = false ∧ max a b = r.games + 1 ∧ min a b = r.games) ∨ (isLong r l = true ∧ r.games + 1 < max a b ∧ min a b + 2 = max a b ∧ t = 0) := by
  unfold okSet
  simp [and_assoc, or_assoc]
/-- a set that's over, by numbers alone -/
def okS (lng : Bool) (G a b t : Nat) : Prop := (max a b = G ∧ min a b + 2 ≤ max a b ∧ t = 0) ∨ (max a b = G + 1 ∧ min a b + 2 = max a b ∧ t = 0) ∨ (lng = false ∧ max a b = G + 1 ∧ min a b = G) ∨ (lng = true ∧ G + 1 < max a b ∧ min a b + 2 = max a b ∧ t = 0)
theorem okS.symm {lng : Bool} {G a b t : Nat} (h : okS lng G a b t) : okS lng G b a t := by
  unfold okS
  rw [Nat.max_comm b a, Nat.min_comm b a]
  exact h
theorem okG.ends {lng : Bool} {G a b : Nat} (h : okG lng G a b) (hn : G ≤ a + 1 ∧ b + 2 ≤ a + 1) : okS lng G (a + 1) b 0 := by
  have hb : b ≤ a + 1 := by omega
  unfold okS
  rw [Nat.max_eq_left hb, Nat.min_eq_right hb]
  by_cases c : a + 1 = G
  · exact .inl ⟨c, hn.2, rfl⟩
  · have e : b + 2 = a + 1 := by
      rcases h with h | h | h <;> omega
    by_cases c2 : a + 1 = G + 1
    · exact .inr (.inl ⟨c2, e, rfl⟩)
    · have hl : lng = true := by
        rcases h with h | h | h
        · omega
        · omega
        · exact h.1
      exact .inr (.inr (.inr ⟨hl, by omega, e, rfl⟩))
theorem okS.tie (G t : Nat) : okS false G (G + 1) G t :=
  .inr (.inr (.inl ⟨rfl, Nat.max_eq_left (Nat.le_succ _), Nat.min_eq_right (Nat.le_succ _)⟩))
theorem okS_t {r : Rules} {l : List (Nat × Nat × Nat)} {a b t : Nat} : okSet r l (a, b, t) = true ↔ okS (isLong r l) r.games a b t := okSet_t
theorem one_sum (a b : Nat) (x : Bool) : (one a b x).1 + (one a b x).2 = a + b + 1 := by
  cases x
  · rfl
  · exact Nat.add_right_comm a 1 b
theorem Bd.aft {r : Rules} {m : Nat} {s : Score} (B : Bd r m s) (W : Wf r s) (ho : over r s.done = false) (x : Bool) : Bd r (m + 1) (aft r s x) := by
  obtain ⟨hg, hp⟩ := W.go ho
  have g := okG_t.mp hg
  have B1 := B.mono (Nat.le_succ m)
  have bg : (one s.ga s.gb x).1 + (one s.ga s.gb x).2 ≤ 120 + (m + 1) := by
    rw [one_sum]
    exact Nat.succ_le_succ B.g
  have bp : (one s.pa s.pb x).1 + (one s.pa s.pb x).2 ≤ 120 + (m + 1) := by
    rw [one_sum]
    exact Nat.succ_le_succ B.p
  have bg' : (one s.ga s.gb x).1 + (one s.ga s.gb x).2 ≤ 121 + (m + 1) := Nat.le_trans bg (by omega)
  have z0 : 0 + 0 ≤ 120 + (m + 1) := Nat.zero_le _
  unfold Pd.aft
  cases ht : tie r s with
  | true =>
    have t := tie_t.mp ht
    simp only [if_true]
    by_cases hn : has x (one s.pa s.pb x).1 (one s.pa s.pb x).2 7 2 = true
    · rw [if_pos hn]
      cases x with
      | true =>
        have h := has_t.mp hn
        have h2 : s.pb + 2 ≤ s.pa + 1 := h.2
        have bp' : s.pa + 1 + s.pb ≤ 120 + (m + 1) := bp
        refine B1.set ho (okS_t.mpr ?_) bg' (show 2 * s.pb ≤ _ by omega)
        rw [t.1, t.2.1, t.2.2]
        exact okS.tie _ _
      | false =>
        have h := has_f.mp hn
        have h2 : s.pa + 2 ≤ s.pb + 1 := h.2
        have bp' : s.pa + (s.pb + 1) ≤ 120 + (m + 1) := bp
        refine B1.set ho (okS_t.mpr ?_) bg' (show 2 * s.pa ≤ _ by omega)
        rw [t.1, t.2.1, t.2.2]
        exact (okS.tie _ _).symm
    · rw [if_neg hn]
      exact ⟨B.sets, B1.g, bp, B1.d⟩
  | false =>
    simp only [if_false, Bool.false_eq_true]
    by_cases hn : has x (one s.pa s.pb x).1 (one s.pa s.pb x).2 4 (if r.short = true then 1 else 2) = true
    · rw [if_pos hn]
      unfold aftGame
      by_cases hw : has x (one s.ga s.gb x).1 (one s.ga s.gb x).2 r.games 2 = true
      · simp only [hw, if_true]
        cases x with
        | true => exact B1.set ho (okS_t.mpr (g.ends (has_t.mp hw))) bg' (Nat.zero_le _)
        | false => exact B1.set ho (okS_t.mpr (g.symm.ends (has_f.mp hw)).symm) bg' (Nat.zero_le _)
      · simp only [show has x (one s.ga s.gb x).1 (one s.ga s.gb x).2 r.games 2 = false by simpa using hw, if_false, Bool.false_eq_true]
        exact ⟨B.sets, bg, z0, B1.d⟩
    · rw [if_neg hn]
      split
      · exact ⟨B.sets, B1.g, (show 3 + 3 ≤ 120 + (m + 1) by omega), B1.d⟩
      · exact ⟨B.sets, B1.g, bp, B1.d⟩
theorem Trail.bd {r : Rules} : ∀ {s : Score} {l : List Bool} {ts : List Score} {m : Nat}, Trail r s l ts → Wf r s → Bd r m s → ∀ u ∈ ts, Bd r (m + l.length) u
  | s, _, _, m, .nil _, W, B, u, hu => by
    have : u = s := by simpa using hu
    subst this
    exact B
  | s, _, _, m, .cons (t := t) (x := x) (l := l) e h, W, B, u, hu => by
    rcases List.mem_cons.mp hu with z | z
    · rw [z]
      exact B.mono (Nat.le_add_right _ _)
    · cases ho : over r s.done with
      | true => rw [point_over ho] at e; cases e
      | false =>
        rw [point_aft W ho] at e
        cases e
        have := Trail.bd h (wf_aft W ho x) (B.aft W ho x) u z
        rw [List.length_cons, show m + (l.length + 1) = m + 1 + l.length by omega]
        exact this
theorem Inv.bd {a : Ks303.Abs} {ws : List Bool} {ts : List Score} (I : Inv a ws ts) (on : a.on = true) : Bd a.rules 1000 a.score := by
  obtain ⟨_, W, T, e⟩ := I.on on
  obtain ⟨hc, hb⟩ := I.bnd on
  refine (T.bd W (Bd.of hc hb) _ (List.mem_of_getElem? e)).mono ?_
  have := I.few
  omega
end Pd

end
section
set_option Elab.async false
namespace Pd
open Ks301 (Rules Score over tie isLong setsOf okRules okGames okPoints okSet okSets can bounded)
open Ks302 (point)
open Ks303 (needs)
/-! ### points in a row: a number that falls -/
def own (x : Bool) (a b : Nat) : Nat := if x then a else b
def oth (x : Bool) (a b : Nat) : Nat := if x then b else a
/-- what is lacking in the game that goes on, in the set, in the match; above what is needed -/
def lackP (r : Rules) (s : Score) (x : Bool) : Nat := (if tie r s then max 7 (oth x s.pa s.pb + 2) else max 4 (oth x s.pa s.pb + 2)) - own x s.pa s.pb
def lackG (r : Rules) (s : Score) (x : Bool) : Nat := max r.games (oth x s.ga s.gb + 2) - own x s.ga s.gb
def lack (r : Rules) (s : Score) (x : Bool) : Nat := (r.sets - own x (setsOf true s.done) (setsOf false s.done)) * 200 + lackG r s x * 12 + lackP r s x
theorem okT.symm {a b : Nat} (h : okT a b) : okT b a := by
  rcases h with h | h
  · exact .inl h.symm
  · exact .inr h.symm
theorem okT.lack {a b : Nat} (h : okT a b) : 1 ≤ max 7 (b + 2) - a ∧ max 7 (b + 2) - a ≤ 9 := by
  rcases h with h | h <;> omega
theorem okG.lack {lng : Bool} {G a b : Nat} (h : okG lng G a b) (h2 : 2 ≤ G) (h8 : G ≤ 8) : 1 ≤ max G (b + 2) - a ∧ max G (b + 2) - a ≤ 10 := by
  rcases h with h | h | h <;> omega
theorem gl_fin (short x : Bool) : ∀ (a b : Fin 5), okP short a.val b.val → (1 ≤ max 4 (oth x a.val b.val + 2) - own x a.val b.val ∧ max 4 (oth x a.val b.val + 2) - own x a.val b.val ≤ 9) ∧
    (¬ has x (one a.val b.val x).1 (one a.val b.val x).2 4 (lead short) = true →
      ((one a.val b.val x).1 = 4 ∧ (one a.val b.val x).2 = 4 → max 4 (oth x 3 3 + 2) - own x 3 3 < max 4 (oth x a.val b.val + 2) - own x a.val b.val) ∧
      (¬ ((one a.val b.val x).1 = 4 ∧ (one a.val b.val x).2 = 4) → max 4 (oth x (one a.val b.val x).1 (one a.val b.val x).2 + 2) - own x (one a.val b.val x).1 (one a.val b.val x).2 < max 4 (oth x a.val b.val + 2) - own x a.val b.val)) := by
  cases short <;> cases x <;> decide
theorem gl {short : Bool} {a b : Nat} (h : okP short a b) (x : Bool) : (1 ≤ max 4 (oth x a b + 2) - own x a b ∧ max 4 (oth x a b + 2) - own x a b ≤ 9) ∧
    (¬ has x (one a b x).1 (one a b x).2 4 (lead short) = true →
      ((one a b x).1 = 4 ∧ (one a b x).2 = 4 → max 4 (oth x 3 3 + 2) - own x 3 3 < max 4 (oth x a b + 2) - own x a b) ∧
      (¬ ((one a b x).1 = 4 ∧ (one a b x).2 = 4) → max 4 (oth x (one a b x).1 (one a b x).2 + 2) - own x (one a b x).1 (one a b x).2 < max 4 (oth x a b + 2) - own x a b)) :=
  gl_fin short x ⟨a, h.small.1⟩ ⟨b, h.small.2⟩ h
theorem lackP_t {r : Rules} {s : Score} {x : Bool} (ht : tie r s = true) : lackP r s x = max 7 (oth x s.pa s.pb + 2) - own x s.pa s.pb := by
  unfold lackP
  rw [if_pos ht]
theorem lackP_f {r : Rules} {s : Score} {x : Bool} (ht : tie r s = false) : lackP r s x = max 4 (oth x s.pa s.pb + 2) - own x s.pa s.pb := by
  unfold lackP
  rw [if_neg (by rw [ht]; decide)]
theorem lackP_le {r : Rules} {s : Score} (W : Wf r s) (ho : over r s.done = false) (x : Bool) : 1 ≤ lackP r s x ∧ lackP r s x ≤ 9 := by
  obtain ⟨_, hp⟩ := W.go ho
  cases ht : tie r s with
  | true =>
    have p : okT s.pa s.pb := (okPoints_tie ht).mp hp
    rw [lackP_t ht]
    cases x
    · exact p.symm.lack
    · exact p.lack
  | false =>
    rw [lackP_f ht]
    exact (gl ((okPoints_game ht).mp hp) x).1
theorem lackG_le {r : Rules} {s : Score} (W : Wf r s) (ho : over r s.done = false) (x : Bool) : 1 ≤ lackG r s x ∧ lackG r s x ≤ 10 := by
  have g := okG_t.mp (W.go ho).1
  have og := (okR.mp W.ok).2.2
  unfold lackG
  cases x
  · exact g.symm.lack og.1 og.2
  · exact g.lack og.1 og.2
theorem lack_le {r : Rules} {s : Score} (W : Wf r s) (ho : over r s.done = false) (x : Bool) : lack r s x ≤ 1000 := by
  have h1 := lackP_le W ho x
  have h2 := lackG_le W ho x
  have h3 := (okR.mp W.ok).2.1
  unfold lack
  have h4 : (r.sets - own x (setsOf true s.done) (setsOf false s.done)) * 200 ≤ 3 * 200 := Nat.mul_le_mul_right _ (by omega)
  omega
theorem new_lackP (r : Rules) (l : List (Nat × Nat × Nat)) (a b : Nat) (x : Bool) : lackP r ⟨l, a, b, 0, 0⟩ x ≤ 7 := by
  cases ht : tie r ⟨l, a, b, 0, 0⟩ with
  | true =>
    rw [lackP_t ht]
    show max 7 (oth x 0 0 + 2) - own x 0 0 ≤ 7
    cases x <;> decide
  | false =>
    rw [lackP_f ht]
    show max 4 (oth x 0 0 + 2) - own x 0 0 ≤ 7
    cases x <;> decide
/-- the three numbers put together -/
theorem lack_lt {S G P S' G' P' : Nat} (h : (S' + 1 ≤ S ∧ G' ≤ 8 ∧ P' ≤ 7) ∨ (S' = S ∧ ((G' + 1 ≤ G ∧ P' ≤ 7) ∨ (G' = G ∧ P' < P)))) : S' * 200 + G' * 12 + P' < S * 200 + G * 12 + P := by
  rcases h with h | ⟨rfl, h | ⟨rfl, h⟩⟩
  · have := Nat.mul_le_mul_right 200 h.1
    omega
  · omega
  · omega
/-- a set won: one set less is lacking -/
theorem lack_set {r : Rules} {s : Score} {g : Nat × Nat} {t : Nat} {x : Bool} (W : Wf r s) (ho : over r s.done = false) (hab : if x = true then g.2 < g.1 else g.1 < g.2) : lack r (aftSet s g t) x < lack r s x := by
  have o := over_f.mp ho
  have ok := okR.mp W.ok
  have g0 : lackG r (aftSet s g t) x ≤ 8 := by
    show max r.games (oth x 0 0 + 2) - own x 0 0 ≤ 8
    have e : oth x 0 0 = 0 := by cases x <;> rfl
    rw [e, Nat.max_eq_left ok.2.2.1]
    exact Nat.le_trans (Nat.sub_le _ _) ok.2.2.2
  refine lack_lt (.inl ⟨?_, g0, new_lackP _ _ _ _ _⟩)
  show r.sets - own x (setsOf true (s.done ++ [(g.1, g.2, t)])) (setsOf false (s.done ++ [(g.1, g.2, t)])) + 1 ≤ r.sets - own x (setsOf true s.done) (setsOf false s.done)
  rw [setsOf_t, setsOf_f]
  cases x with
  | true =>
    rw [if_pos (show g.2 < g.1 from hab)]
    show r.sets - (setsOf true s.done + 1) + 1 ≤ r.sets - setsOf true s.done
    omega
  | false =>
    rw [if_pos (show g.1 < g.2 from hab)]
    show r.sets - (setsOf false s.done + 1) + 1 ≤ r.sets - setsOf false s.done
    omega
theorem one_lt {a b : Nat} (h : a = b) (x : Bool) : if x = true then (one a b x).2 < (one a b x).1 else (one a b x).1 < (one a b x).2 := by
  subst h
  cases x
  · exact Nat.lt_succ_self _
  · exact Nat.lt_succ_self _
theorem has_lt {x : Bool} {p q l : Nat} (h : has x p q l 2 = true) : if x = true then q < p else p < q := by
  cases x with
  | true => exact Nat.lt_of_lt_of_le (Nat.lt_add_of_pos_right (by decide)) (has_t.mp h).2
  | false => exact Nat.lt_of_lt_of_le (Nat.lt_add_of_pos_right (by decide)) (has_f.mp h).2
theorem less {a b l : Nat} (h : ¬ (l ≤ a + 1 ∧ b + 2 ≤ a + 1)) : max l (b + 2) - (a + 1) + 1 ≤ max l (b + 2) - a := by
  have hm : a + 1 < max l (b + 2) :=
    if z : l ≤ a + 1 then Nat.lt_of_lt_of_le (Nat.lt_of_not_le fun y => h ⟨z, y⟩) (Nat.le_max_right _ _) else Nat.lt_of_lt_of_le (Nat.lt_of_not_le z) (Nat.le_max_left _ _)
  exact Nat.sub_lt_sub_left (Nat.lt_of_succ_lt hm) (Nat.lt_succ_self a)
/-- one more of one's own: one less is lacking -/
theorem one_less {x : Bool} {a b l : Nat} (hn : ¬ has x (one a b x).1 (one a b x).2 l 2 = true) : max l (oth x (one a b x).1 (one a b x).2 + 2) - own x (one a b x).1 (one a b x).2 + 1 ≤ max l (oth x a b + 2) - own x a b := by
  cases x with
  | true => exact less (a := a) (b := b) fun z => hn (has_t.mpr z)
  | false => exact less (a := b) (b := a) fun z => hn (has_f.mpr z)
theorem lack_falls {r : Rules} {s : Score} (W : Wf r s) (ho : over r s.done = false) (x : Bool) : lack r (aft r s x) x < lack r s x := by
  obtain ⟨hg, hp⟩ := W.go ho
  unfold aft
  cases ht : tie r s with
  | true =>
    have t := tie_t.mp ht
    simp only [if_true]
    by_cases hn : has x (one s.pa s.pb x).1 (one s.pa s.pb x).2 7 2 = true
    · rw [if_pos hn]
      exact lack_set W ho (one_lt (t.1.trans t.2.1.symm) x)
    · rw [if_neg hn]
      refine lack_lt (.inr ⟨rfl, .inr ⟨rfl, ?_⟩⟩)
      rw [lackP_t ht, lackP_t (s := ⟨s.done, s.ga, s.gb, (one s.pa s.pb x).1, (one s.pa s.pb x).2⟩) ht]
      exact one_less hn
  | false =>
    have k := (gl ((okPoints_game ht).mp hp) x).2
    simp only [if_false, Bool.false_eq_true]
    by_cases hn : has x (one s.pa s.pb x).1 (one s.pa s.pb x).2 4 (if r.short = true then 1 else 2) = true
    · rw [if_pos hn]
      unfold aftGame
      by_cases hw : has x (one s.ga s.gb x).1 (one s.ga s.gb x).2 r.games 2 = true
      · simp only [hw, if_true]
        exact lack_set W ho (has_lt hw)
      · simp only [show has x (one s.ga s.gb x).1 (one s.ga s.gb x).2 r.games 2 = false by simpa using hw, if_false, Bool.false_eq_true]
        exact lack_lt (.inr ⟨rfl, .inl ⟨one_less hw, new_lackP _ _ _ _ _⟩⟩)
    · rw [if_neg hn]
      split
      · rename_i h4
        refine lack_lt (.inr ⟨rfl, .inr ⟨rfl, ?_⟩⟩)
        rw [lackP_f ht, lackP_f (s := ⟨s.done, s.ga, s.gb, 3, 3⟩) ht]
        exact (k hn).1 h4
      · rename_i h4
        refine lack_lt (.inr ⟨rfl, .inr ⟨rfl, ?_⟩⟩)
        rw [lackP_f ht, lackP_f (s := ⟨s.done, s.ga, s.gb, (one s.pa s.pb x).1, (one s.pa s.pb x).2⟩) ht]
        exact (k hn).2 h4
/-- so many points are enough -/
theorem needs_more {r : Rules} {x : Bool} : ∀ (n : Nat) (s : Score) (m : Nat), Wf r s → (over r s.done = false → lack r s x ≤ n) → (over r s.done = false → lack r s x ≤ m) → needs r s x n = needs r s x m := by
  intro n
  induction n with
  | zero =>
    intro s m W hn hm
    cases ho : over r s.done with
    | true =>
      cases m with
      | zero => rfl
      | succ m =>
        show 0 = (match point r s x with | none => 0 | some t => 1 + needs r t x m)
        rw [point_over ho]
    | false =>
      have := lackP_le W ho x
      have h0 := hn ho
      unfold lack at h0
      omega
  | succ n ih =>
    intro s m W hn hm
    cases ho : over r s.done with
    | true =>
      cases m with
      | zero =>
        show (match point r s x with | none => 0 | some t => 1 + needs r t x n) = 0
        rw [point_over ho]
      | succ m =>
        show (match point r s x with | none => 0 | some t => 1 + needs r t x n) = (match point r s x with | none => 0 | some t => 1 + needs r t x m)
        rw [point_over ho]
    | false =>
      have f := lack_falls W ho x
      have h1 := hn ho
      have h2 := hm ho
      cases m with
      | zero =>
        have := lackP_le W ho x
        unfold lack at h2
        omega
      | succ m =>
        show (match point r s x with | none => 0 | some t => 1 + needs r t x n) = (match point r s x with | none => 0 | some t => 1 + needs r t x m)
        rw [point_aft W ho x]
        show 1 + needs r (aft r s x) x n = 1 + needs r (aft r s x) x m
        rw [ih (aft r s x) m (wf_aft W ho x) (fun _ => by omega) (fun _ => by omega)]
theorem needs_over {r : Rules} {s : Score} {x : Bool} (ho : over r s.done = true) : needs r s x 2000 = 0 := by
  show (match point r s x with | none => 0 | some t => 1 + needs r t x 1999) = 0
  rw [point_over ho]
theorem needs_step {r : Rules} {s : Score} {x : Bool} (W : Wf r s) (ho : over r s.done = false) : needs r s x 2000 = 1 + needs r (aft r s x) x 2000 := by
  have e : needs r s x 2000 = 1 + needs r (aft r s x) x 1999 := by
    show (match point r s x with | none => 0 | some t => 1 + needs r t x 1999) = _
    rw [point_aft W ho x]
  have W' := wf_aft W ho x
  rw [e, needs_more 1999 (aft r s x) 2000 W' (fun h => Nat.le_trans (lack_le W' h x) (by decide)) (fun h => Nat.le_trans (lack_le W' h x) (by decide))]
end Pd

end
section
set_option Elab.async false
namespace Pd
open Ks301 (Rules Score over tie isLong setsOf okRules okGames okPoints okSet okSets can bounded isTie tiePoints)
open Ks302 (decimal pair setText setsText callOf text gamesOf serves changes changed)
/-! ### the text -/
/-- two games apart, or not: a tie break decided it -/
def near (x : Nat × Nat × Nat) : Bool := decide (x.1 < x.2.1 + 2 ∧ x.2.1 < x.1 + 2)
def setP (x : Nat × Nat × Nat) : List Nat := pair (decimal 3 x.1) (decimal 3 x.2.1) ++ (if near x = true then 40 :: decimal 3 x.2.2 ++ [41] else [])
theorem near_of {r : Rules} {l : List (Nat × Nat × Nat)} {x : Nat × Nat × Nat} (h : okSet r l x = true) : near x = (!isLong r l && isTie r x) ∧ near x = isTie r x := by
  obtain ⟨a, b, t⟩ := x
  have k : (isLong r l = false ∧ max a b = r.games + 1 ∧ min a b = r.games) ∨ min a b + 2 ≤ max a b := by
    rcases okS_t.mp h with k | k | k | k
    · exact .inr k.2.1
    · exact .inr (Nat.le_of_eq k.2.1)
    · exact .inl k
    · exact .inr (Nat.le_of_eq k.2.2.1)
  show decide (a < b + 2 ∧ b < a + 2) = (!isLong r l && (max a b == r.games + 1 && min a b == r.games)) ∧ decide (a < b + 2 ∧ b < a + 2) = (max a b == r.games + 1 && min a b == r.games)
  rcases k with ⟨k0, k1, k2⟩ | k
  · rw [k0, k1, k2, beq_self_eq_true, beq_self_eq_true, decide_eq_true (by omega)]
    exact ⟨rfl, rfl⟩
  · have e : (max a b == r.games + 1 && min a b == r.games) = false := by
      rw [Bool.eq_false_iff]
      intro z
      rw [Bool.and_eq_true, beq_iff_eq, beq_iff_eq] at z
      omega
    rw [e, decide_eq_false (by omega), Bool.and_false]
    exact ⟨rfl, rfl⟩
theorem setText_eq {r : Rules} {l : List (Nat × Nat × Nat)} {x : Nat × Nat × Nat} (h : okSet r l x = true) : setText r l x = setP x := by
  unfold setText setP
  rw [(near_of h).1]
theorem setsText_eq {r : Rules} : ∀ (l had : List (Nat × Nat × Nat)), okSets r had l = true → setsText r had l = (l.map fun x => setP x ++ [32]).flatten
  | [], _, _ => rfl
  | x :: l, had, h => by
    have h' : ((!over r had && okSet r had x) && okSets r (had ++ [x]) l) = true := h
    rw [Bool.and_eq_true, Bool.and_eq_true] at h'
    show setText r had x ++ 32 :: setsText r (had ++ [x]) l = (setP x ++ [32]) ++ (l.map fun x => setP x ++ [32]).flatten
    rw [setText_eq h'.1.2, setsText_eq l _ h'.2]
    simp
def jn : List (List Nat) → List Nat
  | [] => []
  | [p] => p
  | p :: q :: r => p ++ ([32] ++ jn (q :: r))
theorem jn_two : ∀ (l : List (List Nat)) (a b : List Nat), jn (l ++ [a, b]) = (l.map fun p => p ++ [32]).flatten ++ (a ++ 32 :: b)
  | [], a, b => rfl
  | [p], a, b => by simp [jn]
  | p :: q :: l, a, b => by
    show p ++ ([32] ++ jn (q :: l ++ [a, b])) = _
    rw [jn_two (q :: l) a b]
    simp
theorem jn_drop : ∀ (l : List (List Nat)), (l.map fun p => p ++ [32]).flatten.dropLast = jn l
  | [] => rfl
  | [p] => by simp [jn]
  | p :: q :: l => by
    have ih := jn_drop (q :: l)
    show ((p ++ [32]) ++ ((q :: l).map fun p => p ++ [32]).flatten).dropLast = p ++ ([32] ++ jn (q :: l))
    rw [← ih, List.dropLast_append_of_ne_nil (by simp)]
    simp
/-- the points, as they are called -/
def ptP (r : Rules) (s : Score) : List Nat := if tie r s = true then pair (decimal 3 s.pa) (decimal 3 s.pb) else pair (callOf s.pa) (callOf s.pb)
def parts (r : Rules) (s : Score) : List (List Nat) := s.done.map setP ++ (if over r s.done = true then [] else [pair (decimal 3 s.ga) (decimal 3 s.gb), ptP r s])
theorem text_eq {r : Rules} {s : Score} (h : okSets r [] s.done = true) : text r s = jn (parts r s) := by
  have e : (s.done.map fun x => setP x ++ [32]).flatten = ((s.done.map setP).map fun p => p ++ [32]).flatten := by
    rw [List.map_map]
    rfl
  unfold text parts
  rw [setsText_eq _ _ h, e]
  cases ho : over r s.done with
  | true =>
    simp only [if_true, List.append_nil]
    exact jn_drop _
  | false =>
    simp only [if_false, Bool.false_eq_true]
    rw [jn_two]
    unfold ptP
    simp [pair]
theorem digits_all : ∀ n : Nat, n < 1000 → (Nat.toDigits 10 n).map Char.toNat = decimal 3 n := by decide +kernel
theorem decimal_len (n : Nat) : (decimal 3 n).length ≤ 3 := by
  unfold decimal
  split
  · simp
  · unfold decimal
    split
    · simp
    · unfold decimal
      split <;> simp [decimal]
theorem callOf_len (p : Nat) : (callOf p).length ≤ 2 := by
  unfold callOf
  (repeat' split) <;> simp
theorem setP_len (x : Nat × Nat × Nat) : (setP x).length ≤ 12 := by
  have h1 := decimal_len x.1
  have h2 := decimal_len x.2.1
  have h3 := decimal_len x.2.2
  unfold setP pair
  split <;> simp <;> omega
theorem ptP_len (r : Rules) (s : Score) : (ptP r s).length ≤ 7 := by
  have h1 := decimal_len s.pa
  have h2 := decimal_len s.pb
  have h3 := callOf_len s.pa
  have h4 := callOf_len s.pb
  unfold ptP pair
  split <;> simp <;> omega
theorem jn_len : ∀ (l : List (List Nat)), (∀ p ∈ l, p.length ≤ 12) → (jn l).length ≤ 13 * l.length
  | [], _ => Nat.zero_le _
  | [p], h => by
    have := h p (by simp)
    show p.length ≤ 13 * 1
    omega
  | p :: q :: l, h => by
    have h1 := h p (by simp)
    have h2 := jn_len (q :: l) fun z hz => h z (List.mem_cons_of_mem _ hz)
    show (p ++ ([32] ++ jn (q :: l))).length ≤ 13 * ((q :: l).length + 1)
    simp only [List.length_append, List.length_singleton]
    omega
theorem parts_small {r : Rules} {s : Score} (W : Wf r s) : (parts r s).length ≤ 8 ∧ ∀ p ∈ parts r s, p.length ≤ 12 := by
  have h1 := W.wa
  have h2 := W.wb
  have h3 := W.len
  have h4 := okR.mp W.ok
  unfold parts
  constructor
  · split <;> simp <;> omega
  · intro p hp
    rcases List.mem_append.mp hp with h | h
    · obtain ⟨x, _, rfl⟩ := List.mem_map.mp h
      exact setP_len x
    · split at h
      · cases h
      · rcases List.mem_cons.mp h with rfl | h
        · have a1 := decimal_len s.ga
          have a2 := decimal_len s.gb
          simp [pair]
          omega
        · rw [List.mem_singleton.mp h]
          exact Nat.le_trans (ptP_len r s) (by decide)
/-- numbers below a thousand -/
theorem okG.small {lng : Bool} {G a b : Nat} (h : okG lng G a b) (h8 : G ≤ 8) (hs : a + b ≤ 1120) : a < 1000 := by
  rcases h with h | h | h <;> omega
theorem okT.small {a b : Nat} (h : okT a b) (hs : a + b ≤ 1120) : a < 1000 := by
  rcases h with h | h <;> omega
theorem Bd.small {r : Rules} {s : Score} (B : Bd r 1000 s) (W : Wf r s) (ho : over r s.done = false) : s.ga < 1000 ∧ s.gb < 1000 ∧ s.pa < 1000 ∧ s.pb < 1000 := by
  obtain ⟨hg, hp⟩ := W.go ho
  have g := okG_t.mp hg
  have og := (okR.mp W.ok).2.2.2
  have bg : s.ga + s.gb ≤ 1120 := B.g
  have bp : s.pa + s.pb ≤ 1120 := B.p
  refine ⟨g.small og bg, g.symm.small og (by rw [Nat.add_comm]; exact bg), ?_⟩
  cases ht : tie r s with
  | true =>
    have p : okT s.pa s.pb := (okPoints_tie ht).mp hp
    exact ⟨p.small bp, p.symm.small (by rw [Nat.add_comm]; exact bp)⟩
  | false =>
    have p := okP.small ((okPoints_game ht).mp hp)
    exact ⟨Nat.lt_trans p.1 (by decide), Nat.lt_trans p.2 (by decide)⟩
theorem okSets_mem {r : Rules} : ∀ (l had : List (Nat × Nat × Nat)), okSets r had l = true → ∀ x ∈ l, ∃ h, okSet r h x = true
  | [], _, _, x, hx => by cases hx
  | y :: l, had, h, x, hx => by
    have h' : ((!over r had && okSet r had y) && okSets r (had ++ [y]) l) = true := h
    rw [Bool.and_eq_true, Bool.and_eq_true] at h'
    rcases List.mem_cons.mp hx with z | z
    · exact ⟨had, by rw [z]; exact h'.1.2⟩
    · exact okSets_mem l _ h'.2 x z
theorem okS.small {lng : Bool} {G a b t : Nat} (h : okS lng G a b t) (h8 : G ≤ 8) (hs : a + b ≤ 1121) : a < 1000 := by
  have h1 : max a b ≤ min a b + 2 ∨ max a b ≤ 8 := by
    rcases h with h | h | h | h
    · exact .inr (by omega)
    · exact .inl (Nat.le_of_eq h.2.1.symm)
    · exact .inl (by omega)
    · exact .inl (Nat.le_of_eq h.2.2.1.symm)
  omega
theorem Bd.smallD {r : Rules} {s : Score} (B : Bd r 1000 s) (ok : okRules r = true) : ∀ x ∈ s.done, x.1 < 1000 ∧ x.2.1 < 1000 ∧ x.2.2 < 1000 := fun x hx => by
  obtain ⟨h, k⟩ := okSets_mem _ _ B.sets x hx
  have b := B.d x hx
  obtain ⟨a, c, t⟩ := x
  have k' := okS_t.mp k
  have og := (okR.mp ok).2.2.2
  have b1 : a + c ≤ 1121 := b.1
  have b2 : 2 * t ≤ 1121 := b.2
  exact ⟨k'.small og b1, k'.symm.small og (by rw [Nat.add_comm]; exact b1), (show t < 1000 by omega)⟩
theorem points_le {r : Rules} {s : Score} (W : Wf r s) (ho : over r s.done = false) (ht : tie r s = false) : s.pa ≤ 4 ∧ s.pb ≤ 4 := by
  have p := okP.small ((okPoints_game ht).mp (W.go ho).2)
  exact ⟨Nat.le_of_lt_succ p.1, Nat.le_of_lt_succ p.2⟩

/-! ### who serves, at which ends -/
theorem foldl_sum : ∀ (l : List Nat) (a : Nat), l.foldl (· + ·) a = a + l.sum
  | [], a => by simp
  | x :: l, a => by
    rw [List.foldl_cons, foldl_sum l, List.sum_cons]
    omega
def turns (r : Rules) (s : Score) : Nat := (s.ga + s.gb) + (s.done.map fun x => x.1 + x.2.1).sum + (if tie r s = true then (s.pa + s.pb + 1) / 2 else 0)
theorem serves_eq (r : Rules) (s : Score) : serves r s = (turns r s % 2 == 0) := by
  unfold serves turns gamesOf
  rw [foldl_sum]
  cases tie r s <;> simp <;> congr 2 <;> omega
theorem serves_int (r : Rules) (s : Score) : ((turns r s : Nat) : Int) % 2 = if serves r s = true then 0 else 1 := by
  rw [serves_eq]
  have h : turns r s % 2 = 0 ∨ turns r s % 2 = 1 := by omega
  rcases h with h | h <;> simp [h] <;> omega
def within (t : Nat) : Nat := (max 7 (t + 2) + t - 1) / 6
def chg (x : Nat × Nat × Nat) : Nat := (x.1 + x.2.1 + 1) / 2 + (if near x = true then within x.2.2 else 0)
theorem chg_eq {r : Rules} {l : List (Nat × Nat × Nat)} {x : Nat × Nat × Nat} (h : okSet r l x = true) : chg x = changes r x := by
  unfold chg changes
  rw [(near_of h).2]
  have e : within x.2.2 = (tiePoints x.2.2 - 1) / 6 := by
    unfold within tiePoints
    generalize x.2.2 = t
    by_cases c : t < 6
    · rw [if_pos c, Nat.max_eq_left (show t + 2 ≤ 7 from Nat.add_le_add_right (Nat.le_of_lt_succ c) 2)]
    · rw [if_neg c, Nat.max_eq_right (Nat.le_trans (show 7 ≤ 6 + 2 by decide) (Nat.add_le_add_right (Nat.le_of_not_lt c) 2)), Nat.add_right_comm, ← Nat.two_mul]
  rw [e]
def moves (r : Rules) (s : Score) : Nat := (s.ga + s.gb + 1) / 2 + (if tie r s = true then (s.pa + s.pb) / 6 else 0)
theorem changed_eq {r : Rules} {s : Score} (h : okSets r [] s.done = true) : changed r s = ((moves r s + (s.done.map chg).sum) % 2 == 1) := by
  have e : s.done.map (changes r) = s.done.map chg := by
    refine List.map_congr_left fun x hx => ?_
    obtain ⟨l, k⟩ := okSets_mem _ _ h x hx
    exact (chg_eq k).symm
  unfold changed moves
  rw [e, foldl_sum]
  congr 2
  omega
/-! ### the points that the first player won -/
theorem count_eq (ws : List Bool) : ((ws.reverse.filter fun x => x).length) = ws.countP (fun x => x) := by
  rw [List.filter_reverse, List.length_reverse, List.countP_eq_length_filter]
end Pd

end
section
set_option Elab.async false
namespace Pd
open PyFlat (put put1 putRow putRows told played)
open Ks303Neutral (step start)
/-! ### a line that may be asked -/
theorem told_len : ∀ X : List (List Int), (told X).length = (X.map List.length).sum + X.length
  | [] => rfl
  | a :: X => by
    show (((a.length : Int) :: a) ++ told X).length = _
    rw [List.length_append, told_len X, List.length_cons, List.map_cons, List.sum_cons, List.length_cons]
    omega
theorem played_app {S : Type} (st : S → List (List Int) → S × List Int) : ∀ (cs ds : List (List (List Int))) (s : S), played st s (cs ++ ds) = played st s cs ++ played st (stt st s cs) ds
  | [], _, _ => rfl
  | c :: cs, ds, s => congrArg (List.cons (st s c).2) (played_app st cs ds _)
theorem played_len {S : Type} (st : S → List (List Int) → S × List Int) : ∀ (cs : List (List (List Int))) (s : S), (played st s cs).length = cs.length
  | [], _ => rfl
  | c :: cs, s => congrArg (· + 1) (played_len st cs _)
/-- what a line that may be asked is -/
structure Line (l : List Int) (cs : List (List (List Int))) : Prop where
  put : l = put cs
  is : ∀ c ∈ cs, Is c
  ans : PyKs303.answers l = told (played step start cs)
  few : ((played step start cs).map List.length).sum < 1000000
  many : cs.length ≤ 5000
theorem line_of {l : List Int} (h : PyKs303.answers_asked l = true) : ∃ cs, Line l cs := by
  unfold PyKs303.answers_asked at h
  cases e : PyKs303.calls l with
  | none => rw [e] at h; cases h
  | some cs =>
    rw [e] at h
    have e' := e
    unfold PyKs303.calls at e'
    cases q : PyFlat.calls PyKs303.shape l.length l with
    | none => rw [q] at e'; cases e'
    | some ds =>
      rw [q] at e'
      have hd : ds.map PyKs303.whole = cs := Option.some.inj e'
      have hp := PyFlat.put_calls l.length l ds q
      have h2 : (PyFlat.atMost 5000 cs && Ks303Neutral.asked cs) = true := h
      rw [Bool.and_eq_true] at h2
      have h3 := h2.2
      unfold Ks303Neutral.asked at h3
      simp only [Bool.and_eq_true, decide_eq_true_eq] at h3
      obtain ⟨⟨⟨⟨a1, _⟩, _⟩, a4⟩, a5⟩ := h3
      have each : ∀ c ∈ ds, Is c ∧ PyKs303.whole c = c := fun c hc => by
        have m : PyKs303.whole c ∈ cs := by
          rw [← hd]
          exact List.mem_map_of_mem hc
        exact is_of (hp.2 c hc) (List.all_eq_true.mp a1 _ m) (List.all_eq_true.mp a4 _ m)
      have hd2 : ds.map PyKs303.whole = ds := by
        rw [List.map_congr_left (fun c hc => (each c hc).2), List.map_id']
      rw [hd2] at hd
      subst hd
      refine ⟨ds, hp.1, fun c hc => (each c hc).1, ?_, ?_, ?_⟩
      · unfold PyKs303.answers
        rw [e]
      · have e2 : Ks303Neutral.f ds = played step start ds := runs_played ds start
        rw [e2, foldl_sum] at a5
        omega
      · have h4 := h2.1
        unfold PyFlat.atMost at h4
        simpa using h4
/-- how long the answers are so far -/
theorem Line.short {l : List Int} {cs ds : List (List (List Int))} (L : Line l (cs ++ ds)) : (told (played step start cs)).length ≤ 1005000 := by
  have h1 := L.few
  have h2 := L.many
  rw [played_app, List.map_append, List.sum_append] at h1
  rw [List.length_append] at h2
  rw [told_len, played_len]
  omega
theorem act_len {l : List Int} {cs ds : List (List (List Int))} {c : List (List Int)} (L : Line l (cs ++ c :: ds)) : (told (played step start cs)).length + 1 + (step (stt step start cs) c).2.length ≤ 1005001 := by
  have e : cs ++ c :: ds = (cs ++ [c]) ++ ds := by simp
  rw [e] at L
  have h := L.short
  rw [played_snoc, told_snoc, List.length_append, List.length_cons] at h
  omega
end Pd

end
section
set_option Elab.async false
set_option linter.all false
set_option maxRecDepth 100000
set_option maxHeartbeats 2000000
/-! own rules over the layer -/
namespace Pr
open PySem PySem.Spec PyProof.Rows L2
/-! ### max, min, sum of a tuple that holds two ints -/
/-- all objects stay -/
def Kp (h h' : Heap) : Prop := ∀ b o, h.get? b = some o → h'.get? b = some o
section
variable {P : Program} {w : World} {A : Around} {E : Value → Shared → Prop} {s : Shared} {p : Addr} {a b : Int} {t u : Tok} {Q : Value → Shared → Prop}
abbrev itO (p : Addr) : Obj := { cls := .type "tuple_iterator", data := .fields #[.ref p, .int 0 0] }
theorem it_kp {h' : Heap} (k : ∀ c o, c ∉ [s.heap.objs.size] → (s.heap.push (itO p)).get? c = some o → h'.get? c = some o) : Kp s.heap h' := by
  intro c o e
  apply k c o
  · intro m
    rw [List.mem_singleton.mp m] at e
    exact Nat.lt_irrefl _ (Heap.lt_size e)
  · exact Heap.get?_push_of_some _ e
theorem it_fp (z : p < s.heap.objs.size) : ∀ c ∈ [s.heap.objs.size, p], c < (s.heap.push (itO p)).objs.size := by
  intro c m
  rw [Heap.size_push]
  rcases List.mem_cons.mp m with q | q
  · rw [q]; exact Nat.lt_succ_self _
  · rw [List.mem_singleton.mp q]; exact Nat.lt_succ_of_lt z
theorem pick {v : Value} {c : Bool} (h : (intItems #[(a, t), (b, u)])[if c = true then 1 else 0]? = some v) : RelV (.int (if c = true then b else a)) v := by
  cases c with
  | true => exact ⟨u, by simpa [intItems] using h.symm⟩
  | false => exact ⟨t, by simpa [intItems] using h.symm⟩
theorem best1 (bt : Nat → Nat → Bool) : argBest bt 1 = if bt 1 0 = true then 1 else 0 := rfl
theorem at1 : numAt #[(a, t), (b, u)] 1 = b := rfl
theorem at0 : numAt #[(a, t), (b, u)] 0 = a := rfl
theorem size2 : (intItems #[(a, t), (b, u)]).size = 2 := by simp [intItems]
theorem lt_of (hl : s.heap.IsTuple p (intItems #[(a, t), (b, u)])) : p < s.heap.objs.size := by
  obtain ⟨_, e, _⟩ := hl
  exact Heap.lt_size e
theorem max2T (hh : A.handled = none) (hl : s.heap.IsTuple p (intItems #[(a, t), (b, u)]))
    (h : ∀ v h' k, Kp s.heap h' → RelV (.int (if b > a then b else a)) v → Q v { s with heap := h', toks := k }) : wpAny (model P w) A (call (.builtin "max") [.ref p]) Q E s := by
  have z := lt_of hl
  refine call_max_walk (wpAny_pyIter_tuple hl ⟨_, [_, p], [_], _, _, _, fun i j => decide (numAt #[(a, t), (b, u)] i > numAt #[(a, t), (b, u)] j), rfl,
    Walks.tuple (A := A.in1) hh _ p (Nat.ne_of_lt z) (intItems #[(a, t), (b, u)]), ⟨⟨_, Heap.get?_push_size _ rfl, rfl, rfl⟩, hl.push _⟩, it_fp z, by rw [size2]; decide, CmpOf.ints_gt _ (fun _ _ => intItems_at), fun v h' k m kk => ?_⟩)
  rw [size2, best1, at1, at0] at m
  have r := pick m
  simp only [decide_eq_true_eq] at r
  exact h v h' k (it_kp kk) r
theorem min2T (hh : A.handled = none) (hl : s.heap.IsTuple p (intItems #[(a, t), (b, u)]))
    (h : ∀ v h' k, Kp s.heap h' → RelV (.int (if b < a then b else a)) v → Q v { s with heap := h', toks := k }) : wpAny (model P w) A (call (.builtin "min") [.ref p]) Q E s := by
  have z := lt_of hl
  refine call_min_walk (wpAny_pyIter_tuple hl ⟨_, [_, p], [_], _, _, _, fun i j => decide (numAt #[(a, t), (b, u)] i < numAt #[(a, t), (b, u)] j), rfl,
    Walks.tuple (A := A.in1) hh _ p (Nat.ne_of_lt z) (intItems #[(a, t), (b, u)]), ⟨⟨_, Heap.get?_push_size _ rfl, rfl, rfl⟩, hl.push _⟩, it_fp z, by rw [size2]; decide, CmpOf.ints_lt _ (fun _ _ => intItems_at), fun v h' k m kk => ?_⟩)
  rw [size2, best1, at1, at0] at m
  have r := pick m
  simp only [decide_eq_true_eq] at r
  exact h v h' k (it_kp kk) r
theorem sum2T (hh : A.handled = none) (hl : s.heap.IsTuple p (intItems #[(a, t), (b, u)]))
    (h : ∀ h' k t', Kp s.heap h' → Q (.int (a + b) t') { s with heap := h', toks := k }) : wpAny (model P w) A (call (.builtin "sum") [.ref p]) Q E s := by
  have z := lt_of hl
  refine call_sum_walkG (wpAny_pyIter_tuple hl ⟨_, [_, p], [_], _, _, _, numAt #[(a, t), (b, u)], rfl,
    Walks.tuple (A := A.in1) hh _ p (Nat.ne_of_lt z) (intItems #[(a, t), (b, u)]), ⟨⟨_, Heap.get?_push_size _ rfl, rfl, rfl⟩, hl.push _⟩, it_fp z, (fun _ _ => intItems_at), fun h' k t' kk => ?_⟩)
  have e : preSum (numAt #[(a, t), (b, u)]) (intItems #[(a, t), (b, u)]).size = a + b := by
    rw [size2]
    show 0 + numAt #[(a, t), (b, u)] 0 + numAt #[(a, t), (b, u)] 1 = a + b
    rw [at0, at1, Int.zero_add]
  rw [e]
  exact h h' k t' (it_kp kk)
/-- t + u of tuples, t empty -/
theorem cat0 {q r : Addr} {vs ws : List Value} (hq : IsTup s.heap q vs.toArray) (hr : IsTup s.heap r ws.toArray) (e : vs = []) (h : Q (.ref r) s) : wpAny (model P w) A (binaryOp .Add (.ref q) (.ref r)) Q E s := by
  obtain ⟨⟨c1, d1, x1, z1⟩, g1, k1, m1, y1⟩ := hq
  obtain ⟨⟨c2, d2, x2, z2⟩, g2, k2, m2, y2⟩ := hr
  have k1' : c1 = .type "tuple" := k1
  have k2' : c2 = .type "tuple" := k2
  have y1' : x1 = .seq vs.toArray m1 := y1
  have y2' : x2 = .seq ws.toArray m2 := y2
  subst k1' k2' y1' y2' e
  have rule := tuple_addW0 q r #[] ws.toArray m1 m2 d1 d2 z1 z2 rfl
  exact concat_meets ⟨_, g1, rfl⟩ ⟨_, g2, rfl⟩ noFill_tuple_add seq_tuple_add PySem.F.slot_tuple_add PySem.F.entry_tuple_add (PySem.F.args_tuple_add_2 _ _) rule ⟨g1, g2, h⟩
end
section
variable {X : Cx}
/-- a value, cut off by a word of one's own -/
def tMid (t : TE) : TE := fun σ H Q => ∃ M : VK, t σ H M ∧ ∀ x H', M x H' → Q x H'
theorem pe_mid {e : Expr} {t : TE} (h : PE X e t) : PE X e (tMid t) := fun pins s σ H Q I ⟨M, h1, h2⟩ =>
  thn (h pins s σ H M I h1) fun u s1 ⟨x, H1, I1, r, q⟩ => ⟨x, H1, I1, r, h2 x H1 q⟩
def rCatA (K : PySem.W.Frag) : R2 := fun x y H Q => ∃ a b xs ys, x = .ref a ∧ y = .ref b ∧ SqT K H a xs ∧ SqT K H b ys ∧ xs.length + ys.length ≤ sizeLine ∧
  (xs = [] → Q (.ref b) H) ∧ (xs ≠ [] → ys = [] → Q (.ref a) H) ∧ (xs ≠ [] → ys ≠ [] → ∀ p, H p = none → Q (.ref p) (upd H p (.tup (xs ++ ys))))
theorem op_catA : OpR X (binaryOp .Add) (rCatA X.K) := by
  intro pins s σ H x y v u Q I rx ry h
  obtain ⟨a, b, xs, ys, rfl, rfl, ha, hb, hz, q0, q1, q2⟩ := h
  cases rx
  cases ry
  obtain ⟨its, r1, p1, _⟩ := I.tuple ha
  obtain ⟨its2, r2, p2, _⟩ := I.tuple hb
  by_cases z0 : its = []
  · exact cat0 p1 p2 z0 ⟨.ref b, H, I, rfl, q0 (r1.nil_iff.mp z0)⟩
  have y := fun w => z0 (r1.nil_iff.mpr w)
  refine HT.cat_tup p1 p2 z0 (fun z => ⟨.ref a, H, I, rfl, q1 y (r2.nil_iff.mp z)⟩) (fun z => ?_) (by rw [← r1.length, ← r2.length]; exact hz)
  refine ⟨.ref s.heap.objs.size, _, I.laid (t' := s.toks) (o := .tup (xs ++ ys)) (fun b ob q => Heap.get?_push_of_some _ q) (Nat.le_refl _) ?_, rfl, q2 y (fun w => z (r2.nil_iff.mpr w)) _ (I.hok.fresh (Nat.le_refl _))⟩
  exact ⟨by rw [List.length_append]; exact hz, _, r1.append r2, IsTup.new _ _⟩
/-- max(t), min(t), sum(t) of a pair of ints -/
def rPair (K : PySem.W.Frag) (g : Int → Int → Int) : List V → Hp → VK → Prop := fun vs H Q => ∃ (p : Addr) (a b c : Int), vs = [V.ref p] ∧ SqT K H p [.int a, .int b] ∧ c = g a b ∧ Q (.int c) H
theorem pair_of {its : List Value} {a b : Int} (r : Vals [.int a, .int b] its) : ∃ t u, its.toArray = intItems #[(a, t), (b, u)] := by
  cases r with
  | cons r1 r2 =>
    cases r2 with
    | cons r2 r3 =>
      cases r3
      obtain ⟨t, rfl⟩ := r1
      obtain ⟨u, rfl⟩ := r2
      exact ⟨t, u, by simp [intItems]⟩
theorem cr_pair {f : String} {g : Int → Int → Int} (rule : ∀ {s : Shared} {p : Addr} {a b : Int} {t u : Tok} {Q : Value → Shared → Prop}, X.A.handled = none → s.heap.IsTuple p (intItems #[(a, t), (b, u)]) →
    (∀ v h' k, Kp s.heap h' → RelV (.int (g a b)) v → Q v { s with heap := h', toks := k }) → wpAny (model X.prog X.w) X.A (call (.builtin f) [.ref p]) Q X.xe s) (hc : X.calm = true) : CallR X (.builtin f) (rPair X.K g) := by
  intro pins s σ H vs us Q I r h
  obtain ⟨p, a, b, c, rfl, hs, rfl, q⟩ := h
  obtain ⟨its, rv, hl, _⟩ := I.tuple hs
  obtain ⟨t, u, e⟩ := pair_of rv
  rw [Vals.ref1 r]
  rw [e] at hl
  exact rule (I.ok.hd hc) hl fun v h' k kk rel => ⟨_, H, I.kept kk, rel, q⟩
theorem cr_maxT (hc : X.calm = true) : CallR X (.builtin "max") (rPair X.K fun a b => if b > a then b else a) := cr_pair (fun hh hl h => max2T hh hl h) hc
theorem cr_minT (hc : X.calm = true) : CallR X (.builtin "min") (rPair X.K fun a b => if b < a then b else a) := cr_pair (fun hh hl h => min2T hh hl h) hc
theorem cr_sumT (hc : X.calm = true) : CallR X (.builtin "sum") (rPair X.K fun a b => a + b) := cr_pair (fun hh hl h => sum2T hh hl fun h' k t' kk => h _ h' k kk ⟨t', rfl⟩) hc

/-! ### rules of the layer by a name -/
def rLen (K : PySem.W.Frag) : List V → Hp → VK → Prop := fun xs H Q => ∃ p ys, xs = [.ref p] ∧ (SqL K H p ys ∨ SqT K H p ys) ∧ Q (.int ys.length) H
def rListOf (K : PySem.W.Frag) : List V → Hp → VK → Prop := fun xs H Q => ∃ p ys, xs = [.ref p] ∧ (SqL K H p ys ∨ SqT K H p ys) ∧ ∀ l, H l = none → Q (.ref l) (upd H l (.lst ys))
def rJoin (K : PySem.W.Frag) : V → List V → Hp → VK → Prop := fun x xs H Q => ∃ a p, ∃ ys : List Str, x = .str a ∧ xs = [.ref p] ∧ (SqL K H p (ys.map V.str) ∨ SqT K H p (ys.map V.str)) ∧ (ys.map (·.length)).sum + ys.length * a.length ≤ 16777216 ∧ Q (.str (Txt.join a ys)) H
/-! ### xs.count(n) -/
def rCountL (K : PySem.W.Frag) : V → List V → Hp → VK → Prop := fun x xs H Q => ∃ (a : Addr) (ns : List Int) (k : Int), x = V.ref a ∧ xs = [.int k] ∧ SqL K H a (ns.map V.int) ∧ Q (.int (ns.count k : Nat)) H
theorem mt_countL : MtR X "list.count" (rCountL X.K) := by
  intro pins s σ H x xs v us Q I rx rxs h
  obtain ⟨a, ns, k, rfl, rfl, hs, q⟩ := h
  cases rx
  obtain ⟨u, rfl, t, rfl⟩ := vals1 rxs
  obtain ⟨its, rv, hl, _⟩ := I.list hs
  exact count_list_ints hl.isList rv.ints ⟨.int _, H, I.tok _, ⟨_, rfl⟩, q⟩

/-! ### texts put together: f"..{a}.." -/
def tFmt (te : TE) : TE := fun σ H Q => te σ H fun x H1 => (∃ z, x = .str z ∧ z.length ≤ sizeLine ∧ Q (.str z) H1) ∨ ∃ n : Nat, x = .int n ∧ n < 1000000 ∧ Q (.str (toString (n : Int))) H1
set_option exponentiation.threshold 3000 in
theorem log_small {n : Nat} (h : n < 1000000) : (n : Int).natAbs.log2 < 1920 := by
  have e : (n : Int).natAbs = n := rfl
  rw [e]
  by_cases z : n = 0
  · subst z
    decide
  · have := (Nat.log2_lt z (k := 1920)).mpr (Nat.lt_of_lt_of_le h (by decide))
    exact this
theorem pe_fmt {e : Expr} {te : TE} {pos : Pos} (he : PE X e te) : PE X (.FormattedValue e (-1) none pos) (tFmt te) := by
  intro pins s σ H Q I h
  refine FormattedValue_plain (thn (he pins s σ H _ I h) fun u s1 ⟨x, H1, I1, r, q⟩ => ?_)
  rcases q with ⟨z, rfl, hz, q⟩ | ⟨n, rfl, hn, q⟩
  · obtain ⟨t, rfl⟩ := r
    exact formatField_str (fun t' k => ⟨.str z, H1, I1.tok k, ⟨t', rfl⟩, q⟩) hz
  · obtain ⟨t, rfl⟩ := r
    exact formatField_int_small (log_small hn) ⟨.str _, H1, I1.tok _, ⟨_, rfl⟩, q⟩
/-- the parts of such a text, behind what stands already -/
def PJ (X : Cx) (es : List Expr) (t : Str → TE) : Prop := ∀ (out : Str), out.length ≤ sizeLine → ∀ (pins : List (Addr × Obj)) (s : Shared) (σ : L2.St) (H : Hp) (Q : VK), Inv X pins σ H s → t out σ H Q →
  wpAny (model X.prog X.w) X.A (joinParts out (evalEach es X.env)) (EP X pins σ Q) X.xe s
def jNil : Str → TE := fun out _ H Q => Q (.str out) H
def jCons (te : TE) (t : Str → TE) : Str → TE := fun out σ H Q => te σ H fun x H1 => ∃ y, x = .str y ∧ (out ++ y).length ≤ sizeLine ∧ t (out ++ y) σ H1 Q
theorem jn_nil : PJ X [] jNil := fun out ho pins s σ H Q I h => joinParts_nil ⟨.str out, H, I.tok _, ⟨_, rfl⟩, h⟩ ho
theorem jn_cons {e : Expr} {es : List Expr} {te : TE} {t : Str → TE} (he : PE X e te) (h2 : PJ X es t) : PJ X (e :: es) (jCons te t) := by
  intro out ho pins s σ H Q I h
  refine joinParts_cons (thn (he pins s σ H _ I h) fun u s1 ⟨x, H1, I1, r, y, ey, hy, q⟩ => ?_)
  subst ey
  obtain ⟨k, rfl⟩ := r
  exact ⟨hy, h2 _ hy pins s1 σ H1 Q I1 q⟩
theorem pe_joined {e1 e2 : Expr} {es : List Expr} {pos : Pos} {t : Str → TE} (h : PJ X (e1 :: e2 :: es) t) : PE X (.JoinedStr (e1 :: e2 :: es) pos) (t Str.empty) :=
  fun pins s σ H Q I q => JoinedStr_many (h Str.empty (by decide) pins s σ H Q I q)

/-! ### a dict and a tuple that the top has written -/
def entC (e : DictEntry) (kv : Int × Int) : Bool := match e.key, e.val with
  | .int k _, .int v _ => decide (e.hash = hashInt kv.1) && decide (k = kv.1) && decide (v = kv.2)
  | _, _ => false
def esC : List DictEntry → List (Int × Int) → Bool
  | [], [] => true
  | e :: es, kv :: kvs => entC e kv && esC es kvs
  | _, _ => false
theorem entC_is {e : DictEntry} {kv : Int × Int} (h : entC e kv = true) : ∃ t u, e.key = .int kv.1 t ∧ e.val = .int kv.2 u ∧ e.hash = hashInt kv.1 := by
  unfold entC at h
  split at h
  · rename_i k t v u hk hv
    simp only [Bool.and_eq_true, decide_eq_true_eq] at h
    obtain ⟨⟨h1, rfl⟩, rfl⟩ := h
    exact ⟨t, u, hk, hv, h1⟩
  · cases h
/-- numbers under numbers -/
structure DictI (K : PySem.W.Frag) (d : Addr) (kvs : List (Int × Int)) : Prop where
  ex : ∃ es ep, K.lookup d = some ⟨.type "dict", none, .dict es ep, #[]⟩ ∧ esC es.toList kvs = true
theorem es_keys {P : Program} {w : World} : ∀ {es : List DictEntry} {kvs : List (Int × Int)}, esC es kvs = true → ∀ e ∈ es, ∃ k, (mixKind P w).is k e.key = true ∧ e.hash = (mixKind P w).hash k
  | [], _, _, _, m => by cases m
  | e :: es, [], h, _, _ => by cases h
  | e :: es, kv :: kvs, h, x, m => by
    have h' : (entC e kv && esC es kvs) = true := h
    rw [Bool.and_eq_true] at h'
    rcases List.mem_cons.mp m with z | z
    · subst z
      obtain ⟨t, u, h1, _, h3⟩ := entC_is h'.1
      exact ⟨.inl kv.1, by rw [h1]; exact mixKind_int P w kv.1 t, h3⟩
    · exact es_keys h'.2 x z
theorem es_find {P : Program} {w : World} {k v : Int} : ∀ {es : List DictEntry} {kvs : List (Int × Int)}, esC es kvs = true → kvs.lookup k = some v → ∃ t, (es.find? fun e => (mixKind P w).is (.inl k) e.key).map (·.val) = some (.int v t)
  | [], [], _, h => by cases h
  | [], _ :: _, h, _ => by cases h
  | e :: es, [], h, _ => by cases h
  | e :: es, kv :: kvs, h, hk => by
    have h' : (entC e kv && esC es kvs) = true := h
    rw [Bool.and_eq_true] at h'
    obtain ⟨t, u, h1, h2, _⟩ := entC_is h'.1
    have i1 : (mixKind P w).is (.inl kv.1) e.key = true := by rw [h1]; exact mixKind_int P w kv.1 t
    have i2 := KeyKind.is_eq_decide i1 (.inl k)
    rw [List.find?_cons, i2]
    rw [List.lookup_cons] at hk
    by_cases c : k = kv.1
    · subst c
      simp at hk
      subst hk
      refine ⟨u, ?_⟩
      simp [h2]
    · have c2 : (k == kv.1) = false := by simpa using c
      rw [c2] at hk
      have c3 : decide ((.inl k : Key) = .inl kv.1) = false := decide_eq_false (by intro z; exact c (Sum.inl.inj z))
      rw [c3]
      exact es_find h'.2 hk
theorem DictI.map {pins : List (Addr × Obj)} {σ : L2.St} {H : Hp} {s : Shared} {d : Addr} {kvs : List (Int × Int)} (D : DictI X.K d kvs) (I : Inv X pins σ H s) : ∃ f, s.heap.MapOf (mixKind X.prog X.w) d f ∧ ∀ k v, kvs.lookup k = some v → ∃ t, f (.inl k) = some (.int v t) := by
  obtain ⟨es, ep, lk, c⟩ := D.ex
  refine ⟨findBy (mixKind X.prog X.w).is es, ⟨⟨.type "dict", none, .dict es ep, #[]⟩, es, ep, I.kIn d _ lk, ⟨rfl, rfl, rfl⟩, rfl, fun e m => es_keys c e (by simpa using m), fun _ => rfl⟩, fun k v h => ?_⟩
  obtain ⟨t, q⟩ := es_find (P := X.prog) (w := X.w) c h
  refine ⟨t, ?_⟩
  rw [← q]
  unfold findBy
  rw [← Array.find?_toList]
def tDGetK (kvs : List (Int × Int)) (d : Addr) (to ti : TE) : TE := fun σ H Q => to σ H fun x H1 => ti σ H1 fun y H2 => ∃ k v : Int, x = .ref d ∧ y = .int k ∧ kvs.lookup k = some v ∧ Q (.int v) H2
theorem pe_dgetK {d : Addr} {kvs : List (Int × Int)} {o i : Expr} {to ti : TE} {pos : Pos} (D : DictI X.K d kvs) (ho : PE X o to) (hi : PE X i ti) (hs : NoSl i) : PE X (.Subscript o i pos) (tDGetK kvs d to ti) := by
  intro pins s σ H Q I h
  refine subD_of PySem.F.slot_dict_getitem.lookup hs (thn (ho pins s σ H _ I h) fun u s1 ⟨x, H1, I1, rx, q1⟩ => thn (hi pins s1 σ H1 _ I1 q1) fun iv s2 ⟨y, H2, I2, ry, k, v, ex, ey, hk, q2⟩ => ?_)
  subst ex ey
  obtain rfl : u = Value.ref d := rx
  obtain ⟨f, mo, hf⟩ := D.map I2
  obtain ⟨t, ft⟩ := hf k v hk
  exact ⟨mo.typeIs, wpAny_getItem_of (k := .inl k) (kV_is (k := .inl k) ry) mo ft ⟨.int v, H2, I2.tok _, ⟨t, rfl⟩, q2⟩⟩
/-- texts, one behind another -/
structure TupS (K : PySem.W.Frag) (d : Addr) (xs : List Str) : Prop where
  ex : ∀ H : Hp, SqT K H d (xs.map V.str)
theorem tupS_of {K : PySem.W.Frag} {d : Addr} {c : Value} {dd : Option Addr} {its : Array Value} {n : Nat} {sl : Array (Option Value)} {xs : List Str} (lk : K.lookup d = some ⟨c, dd, .seq its n, sl⟩) (hc : c = .type "tuple") (hz : its.size ≤ 100)
    (h : its.toList.map absV = xs.map fun x => some (.str x)) : TupS K d xs := by
  refine ⟨fun H => .inr ⟨_, its, n, lk, hc, rfl, ?_, ?_⟩⟩
  · rw [sizeLine_eq]
    omega
  · generalize its.toList = l at h
    induction xs generalizing l with
    | nil =>
      have : l = [] := by simpa using h
      subst this
      exact .nil
    | cons x xs ih =>
      match l, h with
      | [], h => cases h
      | u :: l, h =>
        simp only [List.map_cons, List.cons.injEq] at h
        refine .cons ?_ (ih l h.2)
        have h1 := h.1
        unfold absV at h1
        split at h1 <;> first | (cases h1; done) | skip
        cases h1
        exact ⟨_, rfl⟩
end
end Pr

end
section
set_option Elab.async false
set_option linter.all false
set_option maxRecDepth 100000
set_option maxHeartbeats 2000000
namespace Pt
open PySem PySem.Spec PyProof.Rows L2
open Ks301 (Rules Score)
def top (i : Nat) : Stmt := PySem.Challenge.pw_pointdesk_s01_answers.main.body.getD i (.Pass ⟨0, 0, 0, 0⟩)
abbrev s_Rules_init : Stmt := inClass (top 4) 0
theorem sc_Rules_init : FnScope ["self", "sets", "games", "long", "short"] ["self", "sets", "games", "long", "short"] (defScope s_Rules_init) := ⟨rfl, rfl, rfl, by decide +kernel, rfl, by decide +kernel, by decide +kernel⟩
abbrev s_Score_init : Stmt := inClass (top 5) 0
theorem sc_Score_init : FnScope ["self", "done", "won", "games", "points"] ["self", "done", "won", "games", "points"] (defScope s_Score_init) := ⟨rfl, rfl, rfl, by decide +kernel, rfl, by decide +kernel, by decide +kernel⟩
abbrev s_first_score : Stmt := top 6
theorem sc_first_score : FnScope [] [] (defScope s_first_score) := ⟨rfl, rfl, rfl, by decide +kernel, rfl, by decide +kernel, by decide +kernel⟩
abbrev s_match_over : Stmt := top 7
theorem sc_match_over : FnScope ["rules", "score"] ["rules", "score"] (defScope s_match_over) := ⟨rfl, rfl, rfl, by decide +kernel, rfl, by decide +kernel, by decide +kernel⟩
abbrev s_goes_on_without_tie_break : Stmt := top 8
theorem sc_goes_on_without_tie_break : FnScope ["rules", "score"] ["rules", "score"] (defScope s_goes_on_without_tie_break) := ⟨rfl, rfl, rfl, by decide +kernel, rfl, by decide +kernel, by decide +kernel⟩
abbrev s_in_tie_break : Stmt := top 9
theorem sc_in_tie_break : FnScope ["rules", "score"] ["rules", "score"] (defScope s_in_tie_break) := ⟨rfl, rfl, rfl, by decide +kernel, rfl, by decide +kernel, by decide +kernel⟩
abbrev s_one_more : Stmt := top 10
theorem sc_one_more : FnScope ["pair", "who"] ["pair", "who"] (defScope s_one_more) := ⟨rfl, rfl, rfl, by decide +kernel, rfl, by decide +kernel, by decide +kernel⟩
abbrev s_has_won : Stmt := top 11
theorem sc_has_won : FnScope ["pair", "who", "least", "lead"] ["pair", "who", "least", "lead"] (defScope s_has_won) := ⟨rfl, rfl, rfl, by decide +kernel, rfl, by decide +kernel, by decide +kernel⟩
abbrev s_after_point : Stmt := top 12
theorem sc_after_point : FnScope ["rules", "score", "who", "points"] ["rules", "score", "who"] (defScope s_after_point) := ⟨rfl, rfl, rfl, by decide +kernel, rfl, by decide +kernel, by decide +kernel⟩
abbrev s_after_game : Stmt := top 13
theorem sc_after_game : FnScope ["rules", "score", "who", "games"] ["rules", "score", "who"] (defScope s_after_game) := ⟨rfl, rfl, rfl, by decide +kernel, rfl, by decide +kernel, by decide +kernel⟩
abbrev s_after_set : Stmt := top 14
theorem sc_after_set : FnScope ["score", "games", "loser_points", "done", "won"] ["score", "games", "loser_points"] (defScope s_after_set) := ⟨rfl, rfl, rfl, by decide +kernel, rfl, by decide +kernel, by decide +kernel⟩
abbrev s_score_text : Stmt := top 18
theorem sc_score_text : FnScope ["rules", "score", "parts", "ended"] ["rules", "score"] (defScope s_score_text) := ⟨rfl, rfl, rfl, by decide +kernel, rfl, by decide +kernel, by decide +kernel⟩
abbrev s_set_text : Stmt := top 19
theorem sc_set_text : FnScope ["ended", "games", "loser_points"] ["ended"] (defScope s_set_text) := ⟨rfl, rfl, rfl, by decide +kernel, rfl, by decide +kernel, by decide +kernel⟩
abbrev s_pair_text : Stmt := top 20
theorem sc_pair_text : FnScope ["pair", "first", "other"] ["pair"] (defScope s_pair_text) := ⟨rfl, rfl, rfl, by decide +kernel, rfl, by decide +kernel, by decide +kernel⟩
abbrev s_points_text : Stmt := top 21
theorem sc_points_text : FnScope ["rules", "score", "points"] ["rules", "score"] (defScope s_points_text) := ⟨rfl, rfl, rfl, by decide +kernel, rfl, by decide +kernel, by decide +kernel⟩
abbrev s_won_by_tie_break : Stmt := top 22
theorem sc_won_by_tie_break : FnScope ["ended"] ["ended"] (defScope s_won_by_tie_break) := ⟨rfl, rfl, rfl, by decide +kernel, rfl, by decide +kernel, by decide +kernel⟩
abbrev s_server : Stmt := top 23
theorem sc_server : FnScope ["rules", "score", "turns", "ended"] ["rules", "score"] (defScope s_server) := ⟨rfl, rfl, rfl, by decide +kernel, rfl, by decide +kernel, by decide +kernel⟩
abbrev s_ends_changed : Stmt := top 24
theorem sc_ends_changed : FnScope ["rules", "score", "changes", "ended"] ["rules", "score"] (defScope s_ends_changed) := ⟨rfl, rfl, rfl, by decide +kernel, rfl, by decide +kernel, by decide +kernel⟩
abbrev s_changes_behind_games : Stmt := top 25
theorem sc_changes_behind_games : FnScope ["played"] ["played"] (defScope s_changes_behind_games) := ⟨rfl, rfl, rfl, by decide +kernel, rfl, by decide +kernel, by decide +kernel⟩
abbrev s_changes_within_tie_break : Stmt := top 26
theorem sc_changes_within_tie_break : FnScope ["loser_points", "winner_points"] ["loser_points"] (defScope s_changes_within_tie_break) := ⟨rfl, rfl, rfl, by decide +kernel, rfl, by decide +kernel, by decide +kernel⟩
abbrev s_points_needed : Stmt := top 27
theorem sc_points_needed : FnScope ["rules", "score", "who", "needed"] ["rules", "score", "who"] (defScope s_points_needed) := ⟨rfl, rfl, rfl, by decide +kernel, rfl, by decide +kernel, by decide +kernel⟩
abbrev s_told_score : Stmt := top 29
theorem sc_told_score : FnScope ["rules", "done", "now", "score"] ["rules", "done", "now"] (defScope s_told_score) := ⟨rfl, rfl, rfl, by decide +kernel, rfl, by decide +kernel, by decide +kernel⟩
abbrev s_score_of_sets : Stmt := top 30
theorem sc_score_of_sets : FnScope ["rules", "done", "score", "place", "games", "loser_points"] ["rules", "done"] (defScope s_score_of_sets) := ⟨rfl, rfl, rfl, by decide +kernel, rfl, by decide +kernel, by decide +kernel⟩
abbrev s_set_can_end : Stmt := top 31
theorem sc_set_can_end : FnScope ["rules", "score", "games", "loser_points", "high", "low", "endless"] ["rules", "score", "games", "loser_points"] (defScope s_set_can_end) := ⟨rfl, rfl, rfl, by decide +kernel, rfl, by decide +kernel, by decide +kernel⟩
abbrev s_games_can_be : Stmt := top 32
theorem sc_games_can_be : FnScope ["rules", "score", "first", "other", "high", "close"] ["rules", "score", "first", "other"] (defScope s_games_can_be) := ⟨rfl, rfl, rfl, by decide +kernel, rfl, by decide +kernel, by decide +kernel⟩
abbrev s_points_can_be : Stmt := top 33
theorem sc_points_can_be : FnScope ["rules", "score", "high", "low"] ["rules", "score"] (defScope s_points_can_be) := ⟨rfl, rfl, rfl, by decide +kernel, rfl, by decide +kernel, by decide +kernel⟩
abbrev s_Desk_init : Stmt := inClass (top 58) 0
theorem sc_Desk_init : FnScope ["self"] ["self"] (defScope s_Desk_init) := ⟨rfl, rfl, rfl, by decide +kernel, rfl, by decide +kernel, by decide +kernel⟩
abbrev s_Desk_begin : Stmt := inClass (top 58) 1
theorem sc_Desk_begin : FnScope ["self", "sets", "games", "long", "short"] ["self", "sets", "games", "long", "short"] (defScope s_Desk_begin) := ⟨rfl, rfl, rfl, by decide +kernel, rfl, by decide +kernel, by decide +kernel⟩
abbrev s_Desk_go_on_from : Stmt := inClass (top 58) 2
theorem sc_Desk_go_on_from : FnScope ["self", "score"] ["self", "score"] (defScope s_Desk_go_on_from) := ⟨rfl, rfl, rfl, by decide +kernel, rfl, by decide +kernel, by decide +kernel⟩
abbrev s_Desk_told : Stmt := inClass (top 58) 3
theorem sc_Desk_told : FnScope ["self", "done", "now", "score"] ["self", "done", "now"] (defScope s_Desk_told) := ⟨rfl, rfl, rfl, by decide +kernel, rfl, by decide +kernel, by decide +kernel⟩
abbrev s_Desk_point : Stmt := inClass (top 58) 4
theorem sc_Desk_point : FnScope ["self", "who"] ["self", "who"] (defScope s_Desk_point) := ⟨rfl, rfl, rfl, by decide +kernel, rfl, by decide +kernel, by decide +kernel⟩
abbrev s_Desk_back : Stmt := inClass (top 58) 5
theorem sc_Desk_back : FnScope ["self"] ["self"] (defScope s_Desk_back) := ⟨rfl, rfl, rfl, by decide +kernel, rfl, by decide +kernel, by decide +kernel⟩
abbrev s_Desk_right : Stmt := inClass (top 58) 6
theorem sc_Desk_right : FnScope ["self", "k", "place", "later", "scores", "who"] ["self", "k"] (defScope s_Desk_right) := ⟨rfl, rfl, rfl, by decide +kernel, rfl, by decide +kernel, by decide +kernel⟩
abbrev s_Desk_score : Stmt := inClass (top 58) 7
theorem sc_Desk_score : FnScope ["self", "text", "sign"] ["self"] (defScope s_Desk_score) := ⟨rfl, rfl, rfl, by decide +kernel, rfl, by decide +kernel, by decide +kernel⟩
abbrev s_Desk_serving : Stmt := inClass (top 58) 8
theorem sc_Desk_serving : FnScope ["self", "score"] ["self"] (defScope s_Desk_serving) := ⟨rfl, rfl, rfl, by decide +kernel, rfl, by decide +kernel, by decide +kernel⟩
abbrev s_Desk_need : Stmt := inClass (top 58) 9
theorem sc_Desk_need : FnScope ["self", "who"] ["self", "who"] (defScope s_Desk_need) := ⟨rfl, rfl, rfl, by decide +kernel, rfl, by decide +kernel, by decide +kernel⟩
abbrev s_Desk_counts : Stmt := inClass (top 58) 10
theorem sc_Desk_counts : FnScope ["self"] ["self"] (defScope s_Desk_counts) := ⟨rfl, rfl, rfl, by decide +kernel, rfl, by decide +kernel, by decide +kernel⟩
abbrev s_call_length : Stmt := top 59
theorem sc_call_length : FnScope ["calls", "place", "now_place"] ["calls", "place"] (defScope s_call_length) := ⟨rfl, rfl, rfl, by decide +kernel, rfl, by decide +kernel, by decide +kernel⟩
abbrev s_answer_to : Stmt := top 60
theorem sc_answer_to : FnScope ["desk", "call", "now_place"] ["desk", "call"] (defScope s_answer_to) := ⟨rfl, rfl, rfl, by decide +kernel, rfl, by decide +kernel, by decide +kernel⟩
abbrev s_answers : Stmt := top 61
theorem sc_answers : FnScope ["calls", "desk", "given", "place", "length", "answer"] ["calls"] (defScope s_answers) := ⟨rfl, rfl, rfl, by decide +kernel, rfl, by decide +kernel, by decide +kernel⟩
theorem bt_abs : bootBuiltins "abs" = some (.builtin "abs") := by decide +kernel
theorem bt_len : bootBuiltins "len" = some (.builtin "len") := by decide +kernel
theorem bt_list : bootBuiltins "list" = some (.type "list") := by decide +kernel
theorem bt_max : bootBuiltins "max" = some (.builtin "max") := by decide +kernel
theorem bt_min : bootBuiltins "min" = some (.builtin "min") := by decide +kernel
theorem bt_ord : bootBuiltins "ord" = some (.builtin "ord") := by decide +kernel
theorem bt_range : bootBuiltins "range" = some (.type "range") := by decide +kernel
theorem bt_sum : bootBuiltins "sum" = some (.builtin "sum") := by decide +kernel
set_option genSizeOf false in
set_option genSizeOfSpec false in
set_option genInjectivity false in
/-- what the top has written -/
structure Tx (K : PySem.W.Frag) (mg : Str → Option Value) where
  f_Rules_init : Addr
  d_Rules_init : FuncData
  F_Rules_init : Fun K "__init__" "Rules.__init__" s_Rules_init f_Rules_init d_Rules_init
  b_Rules_init : Binds K d_Rules_init ["self", "sets", "games", "long", "short"] []
  f_Score_init : Addr
  d_Score_init : FuncData
  F_Score_init : Fun K "__init__" "Score.__init__" s_Score_init f_Score_init d_Score_init
  b_Score_init : Binds K d_Score_init ["self", "done", "won", "games", "points"] []
  f_first_score : Addr
  d_first_score : FuncData
  F_first_score : Fun K "first_score" "first_score" s_first_score f_first_score d_first_score
  b_first_score : Binds K d_first_score [] []
  g_first_score : mg "first_score" = some (.ref f_first_score)
  f_match_over : Addr
  d_match_over : FuncData
  F_match_over : Fun K "match_over" "match_over" s_match_over f_match_over d_match_over
  b_match_over : Binds K d_match_over ["rules", "score"] []
  g_match_over : mg "match_over" = some (.ref f_match_over)
  f_goes_on_without_tie_break : Addr
  d_goes_on_without_tie_break : FuncData
  F_goes_on_without_tie_break : Fun K "goes_on_without_tie_break" "goes_on_without_tie_break" s_goes_on_without_tie_break f_goes_on_without_tie_break d_goes_on_without_tie_break
  b_goes_on_without_tie_break : Binds K d_goes_on_without_tie_break ["rules", "score"] []
  g_goes_on_without_tie_break : mg "goes_on_without_tie_break" = some (.ref f_goes_on_without_tie_break)
  f_in_tie_break : Addr
  d_in_tie_break : FuncData
  F_in_tie_break : Fun K "in_tie_break" "in_tie_break" s_in_tie_break f_in_tie_break d_in_tie_break
  b_in_tie_break : Binds K d_in_tie_break ["rules", "score"] []
  g_in_tie_break : mg "in_tie_break" = some (.ref f_in_tie_break)
  f_one_more : Addr
  d_one_more : FuncData
  F_one_more : Fun K "one_more" "one_more" s_one_more f_one_more d_one_more
  b_one_more : Binds K d_one_more ["pair", "who"] []
  g_one_more : mg "one_more" = some (.ref f_one_more)
  f_has_won : Addr
  d_has_won : FuncData
  F_has_won : Fun K "has_won" "has_won" s_has_won f_has_won d_has_won
  b_has_won : Binds K d_has_won ["pair", "who", "least", "lead"] []
  g_has_won : mg "has_won" = some (.ref f_has_won)
  f_after_point : Addr
  d_after_point : FuncData
  F_after_point : Fun K "after_point" "after_point" s_after_point f_after_point d_after_point
  b_after_point : Binds K d_after_point ["rules", "score", "who"] []
  g_after_point : mg "after_point" = some (.ref f_after_point)
  f_after_game : Addr
  d_after_game : FuncData
  F_after_game : Fun K "after_game" "after_game" s_after_game f_after_game d_after_game
  b_after_game : Binds K d_after_game ["rules", "score", "who"] []
  g_after_game : mg "after_game" = some (.ref f_after_game)
  f_after_set : Addr
  d_after_set : FuncData
  F_after_set : Fun K "after_set" "after_set" s_after_set f_after_set d_after_set
  b_after_set : Binds K d_after_set ["score", "games", "loser_points"] []
  g_after_set : mg "after_set" = some (.ref f_after_set)
  f_score_text : Addr
  d_score_text : FuncData
  F_score_text : Fun K "score_text" "score_text" s_score_text f_score_text d_score_text
  b_score_text : Binds K d_score_text ["rules", "score"] []
  g_score_text : mg "score_text" = some (.ref f_score_text)
  f_set_text : Addr
  d_set_text : FuncData
  F_set_text : Fun K "set_text" "set_text" s_set_text f_set_text d_set_text
  b_set_text : Binds K d_set_text ["ended"] []
  g_set_text : mg "set_text" = some (.ref f_set_text)
  f_pair_text : Addr
  d_pair_text : FuncData
  F_pair_text : Fun K "pair_text" "pair_text" s_pair_text f_pair_text d_pair_text
  b_pair_text : Binds K d_pair_text ["pair"] []
  g_pair_text : mg "pair_text" = some (.ref f_pair_text)
  f_points_text : Addr
  d_points_text : FuncData
  F_points_text : Fun K "points_text" "points_text" s_points_text f_points_text d_points_text
  b_points_text : Binds K d_points_text ["rules", "score"] []
  g_points_text : mg "points_text" = some (.ref f_points_text)
  f_won_by_tie_break : Addr
  d_won_by_tie_break : FuncData
  F_won_by_tie_break : Fun K "won_by_tie_break" "won_by_tie_break" s_won_by_tie_break f_won_by_tie_break d_won_by_tie_break
  b_won_by_tie_break : Binds K d_won_by_tie_break ["ended"] []
  g_won_by_tie_break : mg "won_by_tie_break" = some (.ref f_won_by_tie_break)
  f_server : Addr
  d_server : FuncData
  F_server : Fun K "server" "server" s_server f_server d_server
  b_server : Binds K d_server ["rules", "score"] []
  g_server : mg "server" = some (.ref f_server)
  f_ends_changed : Addr
  d_ends_changed : FuncData
  F_ends_changed : Fun K "ends_changed" "ends_changed" s_ends_changed f_ends_changed d_ends_changed
  b_ends_changed : Binds K d_ends_changed ["rules", "score"] []
  g_ends_changed : mg "ends_changed" = some (.ref f_ends_changed)
  f_changes_behind_games : Addr
  d_changes_behind_games : FuncData
  F_changes_behind_games : Fun K "changes_behind_games" "changes_behind_games" s_changes_behind_games f_changes_behind_games d_changes_behind_games
  b_changes_behind_games : Binds K d_changes_behind_games ["played"] []
  g_changes_behind_games : mg "changes_behind_games" = some (.ref f_changes_behind_games)
  f_changes_within_tie_break : Addr
  d_changes_within_tie_break : FuncData
  F_changes_within_tie_break : Fun K "changes_within_tie_break" "changes_within_tie_break" s_changes_within_tie_break f_changes_within_tie_break d_changes_within_tie_break
  b_changes_within_tie_break : Binds K d_changes_within_tie_break ["loser_points"] []
  g_changes_within_tie_break : mg "changes_within_tie_break" = some (.ref f_changes_within_tie_break)
  f_points_needed : Addr
  d_points_needed : FuncData
  F_points_needed : Fun K "points_needed" "points_needed" s_points_needed f_points_needed d_points_needed
  b_points_needed : Binds K d_points_needed ["rules", "score", "who"] []
  g_points_needed : mg "points_needed" = some (.ref f_points_needed)
  f_told_score : Addr
  d_told_score : FuncData
  F_told_score : Fun K "told_score" "told_score" s_told_score f_told_score d_told_score
  b_told_score : Binds K d_told_score ["rules", "done", "now"] []
  g_told_score : mg "told_score" = some (.ref f_told_score)
  f_score_of_sets : Addr
  d_score_of_sets : FuncData
  F_score_of_sets : Fun K "score_of_sets" "score_of_sets" s_score_of_sets f_score_of_sets d_score_of_sets
  b_score_of_sets : Binds K d_score_of_sets ["rules", "done"] []
  g_score_of_sets : mg "score_of_sets" = some (.ref f_score_of_sets)
  f_set_can_end : Addr
  d_set_can_end : FuncData
  F_set_can_end : Fun K "set_can_end" "set_can_end" s_set_can_end f_set_can_end d_set_can_end
  b_set_can_end : Binds K d_set_can_end ["rules", "score", "games", "loser_points"] []
  g_set_can_end : mg "set_can_end" = some (.ref f_set_can_end)
  f_games_can_be : Addr
  d_games_can_be : FuncData
  F_games_can_be : Fun K "games_can_be" "games_can_be" s_games_can_be f_games_can_be d_games_can_be
  b_games_can_be : Binds K d_games_can_be ["rules", "score", "first", "other"] []
  g_games_can_be : mg "games_can_be" = some (.ref f_games_can_be)
  f_points_can_be : Addr
  d_points_can_be : FuncData
  F_points_can_be : Fun K "points_can_be" "points_can_be" s_points_can_be f_points_can_be d_points_can_be
  b_points_can_be : Binds K d_points_can_be ["rules", "score"] []
  g_points_can_be : mg "points_can_be" = some (.ref f_points_can_be)
  f_Desk_init : Addr
  d_Desk_init : FuncData
  F_Desk_init : Fun K "__init__" "Desk.__init__" s_Desk_init f_Desk_init d_Desk_init
  b_Desk_init : Binds K d_Desk_init ["self"] []
  f_Desk_begin : Addr
  d_Desk_begin : FuncData
  F_Desk_begin : Fun K "begin" "Desk.begin" s_Desk_begin f_Desk_begin d_Desk_begin
  b_Desk_begin : Binds K d_Desk_begin ["self", "sets", "games", "long", "short"] []
  f_Desk_go_on_from : Addr
  d_Desk_go_on_from : FuncData
  F_Desk_go_on_from : Fun K "go_on_from" "Desk.go_on_from" s_Desk_go_on_from f_Desk_go_on_from d_Desk_go_on_from
  b_Desk_go_on_from : Binds K d_Desk_go_on_from ["self", "score"] []
  f_Desk_told : Addr
  d_Desk_told : FuncData
  F_Desk_told : Fun K "told" "Desk.told" s_Desk_told f_Desk_told d_Desk_told
  b_Desk_told : Binds K d_Desk_told ["self", "done", "now"] []
  f_Desk_point : Addr
  d_Desk_point : FuncData
  F_Desk_point : Fun K "point" "Desk.point" s_Desk_point f_Desk_point d_Desk_point
  b_Desk_point : Binds K d_Desk_point ["self", "who"] []
  f_Desk_back : Addr
  d_Desk_back : FuncData
  F_Desk_back : Fun K "back" "Desk.back" s_Desk_back f_Desk_back d_Desk_back
  b_Desk_back : Binds K d_Desk_back ["self"] []
  f_Desk_right : Addr
  d_Desk_right : FuncData
  F_Desk_right : Fun K "right" "Desk.right" s_Desk_right f_Desk_right d_Desk_right
  b_Desk_right : Binds K d_Desk_right ["self", "k"] []
  f_Desk_score : Addr
  d_Desk_score : FuncData
  F_Desk_score : Fun K "score" "Desk.score" s_Desk_score f_Desk_score d_Desk_score
  b_Desk_score : Binds K d_Desk_score ["self"] []
  f_Desk_serving : Addr
  d_Desk_serving : FuncData
  F_Desk_serving : Fun K "serving" "Desk.serving" s_Desk_serving f_Desk_serving d_Desk_serving
  b_Desk_serving : Binds K d_Desk_serving ["self"] []
  f_Desk_need : Addr
  d_Desk_need : FuncData
  F_Desk_need : Fun K "need" "Desk.need" s_Desk_need f_Desk_need d_Desk_need
  b_Desk_need : Binds K d_Desk_need ["self", "who"] []
  f_Desk_counts : Addr
  d_Desk_counts : FuncData
  F_Desk_counts : Fun K "counts" "Desk.counts" s_Desk_counts f_Desk_counts d_Desk_counts
  b_Desk_counts : Binds K d_Desk_counts ["self"] []
  f_call_length : Addr
  d_call_length : FuncData
  F_call_length : Fun K "call_length" "call_length" s_call_length f_call_length d_call_length
  b_call_length : Binds K d_call_length ["calls", "place"] []
  g_call_length : mg "call_length" = some (.ref f_call_length)
  f_answer_to : Addr
  d_answer_to : FuncData
  F_answer_to : Fun K "answer_to" "answer_to" s_answer_to f_answer_to d_answer_to
  b_answer_to : Binds K d_answer_to ["desk", "call"] []
  g_answer_to : mg "answer_to" = some (.ref f_answer_to)
  f_answers : Addr
  d_answers : FuncData
  F_answers : Fun K "answers" "answers" s_answers f_answers d_answers
  b_answers : Binds K d_answers ["calls"] []
  g_answers : mg "answers" = some (.ref f_answers)
  c_Rules : Addr
  k_Rules : Cls K c_Rules
  g_Rules : mg "Rules" = some (.ref c_Rules)
  mk_Rules : Mk K c_Rules f_Rules_init
  n_Rules_sets : NoAttr K c_Rules "sets"
  n_Rules_games : NoAttr K c_Rules "games"
  n_Rules_long : NoAttr K c_Rules "long"
  n_Rules_short : NoAttr K c_Rules "short"
  c_Score : Addr
  k_Score : Cls K c_Score
  g_Score : mg "Score" = some (.ref c_Score)
  mk_Score : Mk K c_Score f_Score_init
  n_Score_done : NoAttr K c_Score "done"
  n_Score_won : NoAttr K c_Score "won"
  n_Score_games : NoAttr K c_Score "games"
  n_Score_points : NoAttr K c_Score "points"
  c_Desk : Addr
  k_Desk : Cls K c_Desk
  g_Desk : mg "Desk" = some (.ref c_Desk)
  mk_Desk : Mk K c_Desk f_Desk_init
  n_Desk_rules : NoAttr K c_Desk "rules"
  n_Desk_winners : NoAttr K c_Desk "winners"
  n_Desk_scores : NoAttr K c_Desk "scores"
  m_Desk_begin : Meth K c_Desk "begin" f_Desk_begin
  m_Desk_go_on_from : Meth K c_Desk "go_on_from" f_Desk_go_on_from
  m_Desk_told : Meth K c_Desk "told" f_Desk_told
  m_Desk_point : Meth K c_Desk "point" f_Desk_point
  m_Desk_back : Meth K c_Desk "back" f_Desk_back
  m_Desk_right : Meth K c_Desk "right" f_Desk_right
  m_Desk_score : Meth K c_Desk "score" f_Desk_score
  m_Desk_serving : Meth K c_Desk "serving" f_Desk_serving
  m_Desk_need : Meth K c_Desk "need" f_Desk_need
  m_Desk_counts : Meth K c_Desk "counts" f_Desk_counts
  u_GAME_POINTS : Value
  v_GAME_POINTS : mg "GAME_POINTS" = some u_GAME_POINTS
  r_GAME_POINTS : RelV (.int (4)) u_GAME_POINTS
  u_TIE_BREAK_POINTS : Value
  v_TIE_BREAK_POINTS : mg "TIE_BREAK_POINTS" = some u_TIE_BREAK_POINTS
  r_TIE_BREAK_POINTS : RelV (.int (7)) u_TIE_BREAK_POINTS
  u_LEAD : Value
  v_LEAD : mg "LEAD" = some u_LEAD
  r_LEAD : RelV (.int (2)) u_LEAD
  u_POINTS_TO_AN_ENDS_CHANGE : Value
  v_POINTS_TO_AN_ENDS_CHANGE : mg "POINTS_TO_AN_ENDS_CHANGE" = some u_POINTS_TO_AN_ENDS_CHANGE
  r_POINTS_TO_AN_ENDS_CHANGE : RelV (.int (6)) u_POINTS_TO_AN_ENDS_CHANGE
  u_BEGIN : Value
  v_BEGIN : mg "BEGIN" = some u_BEGIN
  r_BEGIN : RelV (.int (0)) u_BEGIN
  u_TOLD : Value
  v_TOLD : mg "TOLD" = some u_TOLD
  r_TOLD : RelV (.int (1)) u_TOLD
  u_POINT : Value
  v_POINT : mg "POINT" = some u_POINT
  r_POINT : RelV (.int (2)) u_POINT
  u_BACK : Value
  v_BACK : mg "BACK" = some u_BACK
  r_BACK : RelV (.int (3)) u_BACK
  u_RIGHT : Value
  v_RIGHT : mg "RIGHT" = some u_RIGHT
  r_RIGHT : RelV (.int (4)) u_RIGHT
  u_SCORE : Value
  v_SCORE : mg "SCORE" = some u_SCORE
  r_SCORE : RelV (.int (5)) u_SCORE
  u_NEXT : Value
  v_NEXT : mg "NEXT" = some u_NEXT
  r_NEXT : RelV (.int (6)) u_NEXT
  u_NEED : Value
  v_NEED : mg "NEED" = some u_NEED
  r_NEED : RelV (.int (7)) u_NEED
  u_NO_SUCH_POINT : Value
  v_NO_SUCH_POINT : mg "NO_SUCH_POINT" = some u_NO_SUCH_POINT
  r_NO_SUCH_POINT : RelV (.int (-2)) u_NO_SUCH_POINT
  u_TOO_MANY_POINTS : Value
  v_TOO_MANY_POINTS : mg "TOO_MANY_POINTS" = some u_TOO_MANY_POINTS
  r_TOO_MANY_POINTS : RelV (.int (-12)) u_TOO_MANY_POINTS
  u_MATCH_IS_OVER : Value
  v_MATCH_IS_OVER : mg "MATCH_IS_OVER" = some u_MATCH_IS_OVER
  r_MATCH_IS_OVER : RelV (.int (-17)) u_MATCH_IS_OVER
  u_OUT_OF_RANGE : Value
  v_OUT_OF_RANGE : mg "OUT_OF_RANGE" = some u_OUT_OF_RANGE
  r_OUT_OF_RANGE : RelV (.int (-22)) u_OUT_OF_RANGE
  u_CANNOT_BE : Value
  v_CANNOT_BE : mg "CANNOT_BE" = some u_CANNOT_BE
  r_CANNOT_BE : RelV (.int (-33)) u_CANNOT_BE
  u_NO_RULES : Value
  v_NO_RULES : mg "NO_RULES" = some u_NO_RULES
  r_NO_RULES : RelV (.int (-61)) u_NO_RULES
  u_TOLD_TOO_MUCH : Value
  v_TOLD_TOO_MUCH : mg "TOLD_TOO_MUCH" = some u_TOLD_TOO_MUCH
  r_TOLD_TOO_MUCH : RelV (.int (-71)) u_TOLD_TOO_MUCH
  u_MOST_SETS_TO_WIN : Value
  v_MOST_SETS_TO_WIN : mg "MOST_SETS_TO_WIN" = some u_MOST_SETS_TO_WIN
  r_MOST_SETS_TO_WIN : RelV (.int (3)) u_MOST_SETS_TO_WIN
  u_LEAST_GAMES : Value
  v_LEAST_GAMES : mg "LEAST_GAMES" = some u_LEAST_GAMES
  r_LEAST_GAMES : RelV (.int (2)) u_LEAST_GAMES
  u_MOST_GAMES : Value
  v_MOST_GAMES : mg "MOST_GAMES" = some u_MOST_GAMES
  r_MOST_GAMES : RelV (.int (8)) u_MOST_GAMES
  u_MOST_POINTS : Value
  v_MOST_POINTS : mg "MOST_POINTS" = some u_MOST_POINTS
  r_MOST_POINTS : RelV (.int (1000)) u_MOST_POINTS
  u_MOST_SETS_TOLD : Value
  v_MOST_SETS_TOLD : mg "MOST_SETS_TOLD" = some u_MOST_SETS_TOLD
  r_MOST_SETS_TOLD : RelV (.int (5)) u_MOST_SETS_TOLD
  u_MOST_TOLD : Value
  v_MOST_TOLD : mg "MOST_TOLD" = some u_MOST_TOLD
  r_MOST_TOLD : RelV (.int (60)) u_MOST_TOLD
  u_CHANGED_ENDS : Value
  v_CHANGED_ENDS : mg "CHANGED_ENDS" = some u_CHANGED_ENDS
  r_CHANGED_ENDS : RelV (.int (2)) u_CHANGED_ENDS
  p_CALL_LENGTHS : Addr
  v_CALL_LENGTHS : mg "CALL_LENGTHS" = some (.ref p_CALL_LENGTHS)
  D_CALL_LENGTHS : Pr.DictI K p_CALL_LENGTHS [(0, 5), (2, 2), (3, 1), (4, 2), (5, 1), (6, 1), (7, 2), (8, 1)]
  p_POINT_TEXTS : Addr
  v_POINT_TEXTS : mg "POINT_TEXTS" = some (.ref p_POINT_TEXTS)
  D_POINT_TEXTS : Pr.TupS K p_POINT_TEXTS ["0", "15", "30", "40", "A"]
  z_abs : mg "abs" = none
  z_len : mg "len" = none
  z_list : mg "list" = none
  z_max : mg "max" = none
  z_min : mg "min" = none
  z_ord : mg "ord" = none
  z_range : mg "range" = none
  z_sum : mg "sum" = none
set_option genSizeOf false
set_option genSizeOfSpec false
set_option genInjectivity false
structure Sm (K : PySem.W.Frag) (mg : Str → Option Value) (N : List Str) (qual : Str) (st : Stmt) (f : Addr) (k : Nat) (stm : Stmt) where
  t : TS
  ok : ∀ {P : Program} {w : World} {base : Heap} (cdv : Value) (A : Around) (outer : List Env) (s : Shared) (H : Hp) (E : XK), Room k (A.deeper (envOfC qual (defScope st) s.heap.objs.size f cdv)) → PS (cxOf CX0 P w K mg base N qual (defScope st) f cdv A outer s H E).nox stm t
/-- the rest of a body: what it means, and that it does -/
structure Tm (K : PySem.W.Frag) (mg : Str → Option Value) (N : List Str) (qual : Str) (st : Stmt) (f : Addr) (k : Nat) (body : List Stmt) where
  t : TS
  ok : ∀ {P : Program} {w : World} {base : Heap} (cdv : Value) (A : Around) (outer : List Env) (s : Shared) (H : Hp) (E : XK), Room k (A.deeper (envOfC qual (defScope st) s.heap.objs.size f cdv)) → PSs (cxOf CX0 P w K mg base N qual (defScope st) f cdv A outer s H E).nox body t

/-! ### a body, statement by statement -/
theorem ps_at {X : Cx} {body : List Stmt} {k : Nat} {st d : Stmt} {t : TS} (e : body[k]? = some st) (h : PS X st t) : PS X (body.getD k d) t := by
  rw [List.getD_eq_getElem?_getD, e]
  exact h
theorem pss_at {X : Cx} {body : List Stmt} {k : Nat} {st : Stmt} {t u : TS} (e : body[k]? = some st) (h1 : PS X st t) (h2 : PSs X (body.drop (k + 1)) u) : PSs X (body.drop k) (tSeq t u) := by
  obtain ⟨hk, e'⟩ := List.getElem?_eq_some_iff.mp e
  rw [List.drop_eq_getElem_cons hk, e']
  exact pss_cons h1 h2
theorem pss_cut {X : Cx} {body : List Stmt} {k : Nat} {d : Stmt} {t u : TS} (hk : Nat.blt k body.length = true) (h1 : PS X (body.getD k d) t) (h2 : PSs X (body.drop (k + 1)) u) : PSs X (body.drop k) (tSeq t u) := by
  have hk' : k < body.length := Nat.le_of_ble_eq_true hk
  refine pss_at (List.getElem?_eq_getElem hk') ?_ h2
  rw [List.getD_eq_getElem?_getD, List.getElem?_eq_getElem hk'] at h1
  exact h1
theorem pss_end {X : Cx} {body : List Stmt} {k : Nat} {st : Stmt} {t : TS} (e : body.drop k = [st]) (h : PS X st t) : PSs X (body.drop k) t := by
  rw [e]
  exact pss_one h
/-! ### several witnesses at once -/
theorem exE {t : Type} {E Q : t → Prop} {x : t} (e : E x) (q : Q x) : ∃ x, E x ∧ Q x := ⟨x, e, q⟩
/-- an item read at a place -/
theorem ixv {S : Addr → List V → Prop} {a : Addr} {xs : List V} {i : Int} {v : V} {Q : V → Prop} (s : S a xs) (h : atI xs i = some v) (q : Q v) : ∃ p ys j u, V.ref a = V.ref p ∧ V.int i = V.int j ∧ S p ys ∧ atI ys j = some u ∧ Q u := ⟨a, xs, i, v, rfl, rfl, s, h, q⟩
theorem ixn {S : Addr → List V → Prop} {a : Addr} {xs : List V} {i : Int} {j : Nat} {v : V} {Q : V → Prop} (s : S a xs) (e : i = (j : Int)) (h : xs[j]? = some v) (q : Q v) : ∃ p ys k u, V.ref a = V.ref p ∧ V.int i = V.int k ∧ S p ys ∧ atI ys k = some u ∧ Q u := ⟨a, xs, i, v, rfl, rfl, s, at_of e h, q⟩
/-- two whole numbers -/
theorem ii2 {i j : Int} {Q : Int → Int → Prop} (q : Q i j) : ∃ a b, V.int i = V.int a ∧ V.int j = V.int b ∧ Q a b := ⟨i, j, rfl, rfl, q⟩
theorem ex2 {ta tb : Type} {P : ta → tb → Prop} (a : ta) (b : tb) (pf : P a b) : ∃ a b, P a b := ⟨a, b, pf⟩
theorem ex3 {ta tb tc : Type} {P : ta → tb → tc → Prop} (a : ta) (b : tb) (c : tc) (pf : P a b c) : ∃ a b c, P a b c := ⟨a, b, c, pf⟩
theorem ex4 {ta tb tc td : Type} {P : ta → tb → tc → td → Prop} (a : ta) (b : tb) (c : tc) (d : td) (pf : P a b c d) : ∃ a b c d, P a b c d := ⟨a, b, c, d, pf⟩
theorem ex5 {ta tb tc td te : Type} {P : ta → tb → tc → td → te → Prop} (a : ta) (b : tb) (c : tc) (d : td) (e : te) (pf : P a b c d e) : ∃ a b c d e, P a b c d e := ⟨a, b, c, d, e, pf⟩
theorem ex6 {ta tb tc td te tf : Type} {P : ta → tb → tc → td → te → tf → Prop} (a : ta) (b : tb) (c : tc) (d : td) (e : te) (f : tf) (pf : P a b c d e f) : ∃ a b c d e f, P a b c d e f := ⟨a, b, c, d, e, f, pf⟩
theorem ex7 {ta tb tc td te tf tg : Type} {P : ta → tb → tc → td → te → tf → tg → Prop} (a : ta) (b : tb) (c : tc) (d : td) (e : te) (f : tf) (g : tg) (pf : P a b c d e f g) : ∃ a b c d e f g, P a b c d e f g := ⟨a, b, c, d, e, f, g, pf⟩
theorem ex8 {ta tb tc td te tf tg th : Type} {P : ta → tb → tc → td → te → tf → tg → th → Prop} (a : ta) (b : tb) (c : tc) (d : td) (e : te) (f : tf) (g : tg) (h : th) (pf : P a b c d e f g h) : ∃ a b c d e f g h, P a b c d e f g h := ⟨a, b, c, d, e, f, g, h, pf⟩
theorem ex9 {ta tb tc td te tf tg th ti : Type} {P : ta → tb → tc → td → te → tf → tg → th → ti → Prop} (a : ta) (b : tb) (c : tc) (d : td) (e : te) (f : tf) (g : tg) (h : th) (i : ti) (pf : P a b c d e f g h i) : ∃ a b c d e f g h i, P a b c d e f g h i := ⟨a, b, c, d, e, f, g, h, i, pf⟩
theorem ex10 {ta tb tc td te tf tg th ti tj : Type} {P : ta → tb → tc → td → te → tf → tg → th → ti → tj → Prop} (a : ta) (b : tb) (c : tc) (d : td) (e : te) (f : tf) (g : tg) (h : th) (i : ti) (j : tj) (pf : P a b c d e f g h i j) : ∃ a b c d e f g h i j, P a b c d e f g h i j := ⟨a, b, c, d, e, f, g, h, i, j, pf⟩
theorem ex11 {ta tb tc td te tf tg th ti tj tk : Type} {P : ta → tb → tc → td → te → tf → tg → th → ti → tj → tk → Prop} (a : ta) (b : tb) (c : tc) (d : td) (e : te) (f : tf) (g : tg) (h : th) (i : ti) (j : tj) (k : tk) (pf : P a b c d e f g h i j k) : ∃ a b c d e f g h i j k, P a b c d e f g h i j k := ⟨a, b, c, d, e, f, g, h, i, j, k, pf⟩
theorem ex12 {ta tb tc td te tf tg th ti tj tk tl : Type} {P : ta → tb → tc → td → te → tf → tg → th → ti → tj → tk → tl → Prop} (a : ta) (b : tb) (c : tc) (d : td) (e : te) (f : tf) (g : tg) (h : th) (i : ti) (j : tj) (k : tk) (l : tl) (pf : P a b c d e f g h i j k l) : ∃ a b c d e f g h i j k l, P a b c d e f g h i j k l := ⟨a, b, c, d, e, f, g, h, i, j, k, l, pf⟩
/-! ### heaps -/
theorem _root_.L2.Same.new {H : Hp} {p : Addr} {o : HO} (h : H p = none) : Same H (upd H p o) := fun b u e => by
  rw [upd_ne (ne_of_none e h)]
  exact e
/-- a new object: all that was is as it was -/
theorem new_of {H H1 : Hp} {p : Addr} {o : HO} (hp : H p = none) (hU : upd H p o = H1) : Same H H1 ∧ H1 p = some o := by
  subst hU
  exact ⟨Same.new hp, upd_same⟩
theorem sz {xs : List V} (h : Nat.ble xs.length 100 = true) : xs.length ≤ sizeLine := by
  rw [sizeLine_eq]
  have := Nat.le_of_ble_eq_true h
  omega
theorem pl1 {f : Str} {v : V} : (putF f v []).length < 1000 := by
  show 1 < 1000
  decide
theorem pl2 {f g : Str} {v u : V} : (putF f v (putF g u [])).length < 1000 := by
  have h1 := length_putF f v (putF g u [])
  have h2 : (putF g u []).length = 1 := rfl
  omega
theorem pl3 {f g h : Str} {v u z : V} : (putF f v (putF g u (putF h z []))).length < 1000 := by
  have h1 := length_putF f v (putF g u (putF h z []))
  have h2 := length_putF g u (putF h z [])
  have h3 : (putF h z []).length = 1 := rfl
  omega
theorem look_hit (f : Str) (v : V) (fs : List (Str × V)) : (putF f v fs).lookup f = some v := by rw [lookup_putF, if_pos rfl]
theorem look_miss {f g : Str} {v : V} {fs : List (Str × V)} {o : Option V} (h : g ≠ f) (e : fs.lookup g = o) : (putF f v fs).lookup g = o := by
  rw [lookup_putF, if_neg h]
  exact e

/-! ### the data -/
def T2 (H : Hp) (a : Addr) (x y : Nat) : Prop := H a = some (.tup [.int x, .int y])
def T3 (H : Hp) (a : Addr) (x : Nat × Nat × Nat) : Prop := H a = some (.tup [.int x.1, .int x.2.1, .int x.2.2])
/-- the sets that are over, as a tuple of triples -/
structure DoneAt (H : Hp) (a : Addr) (ts : List Addr) (l : List (Nat × Nat × Nat)) : Prop where
  tup : H a = some (.tup (ts.map V.ref))
  each : Paired (T3 H) ts l
def b01 (b : Bool) : Int := if b then 1 else 0
/-- 0: the first player -/
def who (x : Bool) : Int := if x then 0 else 1
section
variable {K : PySem.W.Frag} {mg : Str → Option Value}
structure RulesFs (r : Rules) (fs : List (Str × V)) : Prop where
  sets : fs.lookup ("sets" : Str) = some (.int r.sets)
  games : fs.lookup ("games" : Str) = some (.int r.games)
  long : fs.lookup ("long" : Str) = some (.int (b01 r.long))
  short : fs.lookup ("short" : Str) = some (.int (b01 r.short))
  none : fs.lookup ("winners" : Str) = Option.none
def RulesAt (T : Tx K mg) (H : Hp) (a : Addr) (r : Rules) : Prop := ∃ dx fs, H a = some (.ins T.c_Rules dx fs) ∧ RulesFs r fs
structure ScoreFs (td tw tg tp : V) (fs : List (Str × V)) : Prop where
  done : fs.lookup ("done" : Str) = some td
  won : fs.lookup ("won" : Str) = some tw
  games : fs.lookup ("games" : Str) = some tg
  points : fs.lookup ("points" : Str) = some tp
  none : fs.lookup ("winners" : Str) = Option.none
/-- a Score by its parts -/
def PartsAt (T : Tx K mg) (H : Hp) (a : Addr) (td tw tg tp : V) : Prop := ∃ dx fs, H a = some (.ins T.c_Score dx fs) ∧ ScoreFs td tw tg tp fs
/-- the Score s stands at a -/
structure ScoreAt (T : Tx K mg) (H : Hp) (a : Addr) (s : Score) : Prop where
  ex : ∃ td tw tg tp ts, PartsAt T H a (.ref td) (.ref tw) (.ref tg) (.ref tp) ∧ DoneAt H td ts s.done ∧ T2 H tw (Ks301.setsOf true s.done) (Ks301.setsOf false s.done) ∧ T2 H tg s.ga s.gb ∧ T2 H tp s.pa s.pb

/-- what never changes: all but lists and the desk -/
def fixed : HO → Bool
  | .lst _ => false
  | .ins _ _ fs => (fs.lookup ("winners" : Str)).isNone
  | _ => true
def Imm (H H' : Hp) : Prop := ∀ b o, H b = some o → fixed o = true → H' b = some o
theorem _root_.L2.Same.imm {H H' : Hp} (s : Same H H') : Imm H H' := fun b o h _ => s b o h
theorem Imm.trans {H H1 H2 : Hp} (a : Imm H H1) (b : Imm H1 H2) : Imm H H2 := fun c o h f => b c o (a c o h f) f
theorem paired_imp {α β : Type} {R S : α → β → Prop} (h : ∀ a b, R a b → S a b) : ∀ {xs : List α} {ys : List β}, Paired R xs ys → Paired S xs ys
  | _, _, .nil => .nil
  | _, _, .cons r t => .cons (h _ _ r) (paired_imp h t)
theorem T2.imm {H H' : Hp} (s : Imm H H') {a : Addr} {x y : Nat} (h : T2 H a x y) : T2 H' a x y := s a _ h rfl
theorem T3.imm {H H' : Hp} (s : Imm H H') {a : Addr} {x : Nat × Nat × Nat} (h : T3 H a x) : T3 H' a x := s a _ h rfl
theorem DoneAt.imm {H H' : Hp} (s : Imm H H') {a : Addr} {ts : List Addr} {l : List (Nat × Nat × Nat)} (h : DoneAt H a ts l) : DoneAt H' a ts l :=
  ⟨s a _ h.tup rfl, paired_imp (fun _ _ r => T3.imm s r) h.each⟩
theorem RulesAt.imm {T : Tx K mg} {H H' : Hp} (s : Imm H H') {a : Addr} {r : Rules} (h : RulesAt T H a r) : RulesAt T H' a r := by
  obtain ⟨dx, fs, h1, h2⟩ := h
  exact ⟨dx, fs, s a _ h1 (by show (fs.lookup ("winners" : Str)).isNone = true; rw [h2.none]; rfl), h2⟩
theorem PartsAt.imm {T : Tx K mg} {H H' : Hp} (s : Imm H H') {a : Addr} {td tw tg tp : V} (h : PartsAt T H a td tw tg tp) : PartsAt T H' a td tw tg tp := by
  obtain ⟨dx, fs, h1, h2⟩ := h
  exact ⟨dx, fs, s a _ h1 (by show (fs.lookup ("winners" : Str)).isNone = true; rw [h2.none]; rfl), h2⟩
theorem ScoreAt.imm {T : Tx K mg} {H H' : Hp} (s : Imm H H') {a : Addr} {x : Score} (h : ScoreAt T H a x) : ScoreAt T H' a x := by
  obtain ⟨td, tw, tg, tp, ts, h1, h2, h3, h4, h5⟩ := h.ex
  exact ⟨td, tw, tg, tp, ts, h1.imm s, h2.imm s, h3.imm s, h4.imm s, h5.imm s⟩

/-! ### reading fields -/
theorem RulesAt.sets {T : Tx K mg} {H : Hp} {a : Addr} {r : Rules} (h : RulesAt T H a r) {Q : V → Prop} (q : Q (.int r.sets)) : ∃ (a' C dx : Addr) (fs : List (Str × V)) (v : V), V.ref a = .ref a' ∧ H a' = some (.ins C dx fs) ∧ Cls K C ∧ NoAttr K C "sets" ∧ fs.lookup ("sets" : Str) = some v ∧ Q v := by
  obtain ⟨dx, fs, h1, h2⟩ := h
  exact ⟨a, _, dx, fs, _, rfl, h1, T.k_Rules, T.n_Rules_sets, h2.sets, q⟩
theorem RulesAt.games {T : Tx K mg} {H : Hp} {a : Addr} {r : Rules} (h : RulesAt T H a r) {Q : V → Prop} (q : Q (.int r.games)) : ∃ (a' C dx : Addr) (fs : List (Str × V)) (v : V), V.ref a = .ref a' ∧ H a' = some (.ins C dx fs) ∧ Cls K C ∧ NoAttr K C "games" ∧ fs.lookup ("games" : Str) = some v ∧ Q v := by
  obtain ⟨dx, fs, h1, h2⟩ := h
  exact ⟨a, _, dx, fs, _, rfl, h1, T.k_Rules, T.n_Rules_games, h2.games, q⟩
theorem RulesAt.long {T : Tx K mg} {H : Hp} {a : Addr} {r : Rules} (h : RulesAt T H a r) {Q : V → Prop} (q : Q (.int (b01 r.long))) : ∃ (a' C dx : Addr) (fs : List (Str × V)) (v : V), V.ref a = .ref a' ∧ H a' = some (.ins C dx fs) ∧ Cls K C ∧ NoAttr K C "long" ∧ fs.lookup ("long" : Str) = some v ∧ Q v := by
  obtain ⟨dx, fs, h1, h2⟩ := h
  exact ⟨a, _, dx, fs, _, rfl, h1, T.k_Rules, T.n_Rules_long, h2.long, q⟩
theorem RulesAt.short {T : Tx K mg} {H : Hp} {a : Addr} {r : Rules} (h : RulesAt T H a r) {Q : V → Prop} (q : Q (.int (b01 r.short))) : ∃ (a' C dx : Addr) (fs : List (Str × V)) (v : V), V.ref a = .ref a' ∧ H a' = some (.ins C dx fs) ∧ Cls K C ∧ NoAttr K C "short" ∧ fs.lookup ("short" : Str) = some v ∧ Q v := by
  obtain ⟨dx, fs, h1, h2⟩ := h
  exact ⟨a, _, dx, fs, _, rfl, h1, T.k_Rules, T.n_Rules_short, h2.short, q⟩
theorem PartsAt.done {T : Tx K mg} {H : Hp} {a : Addr} {td tw tg tp : V} (h : PartsAt T H a td tw tg tp) {Q : V → Prop} (q : Q td) : ∃ (a' C dx : Addr) (fs : List (Str × V)) (v : V), V.ref a = .ref a' ∧ H a' = some (.ins C dx fs) ∧ Cls K C ∧ NoAttr K C "done" ∧ fs.lookup ("done" : Str) = some v ∧ Q v := by
  obtain ⟨dx, fs, h1, h2⟩ := h
  exact ⟨a, _, dx, fs, _, rfl, h1, T.k_Score, T.n_Score_done, h2.done, q⟩
theorem PartsAt.won {T : Tx K mg} {H : Hp} {a : Addr} {td tw tg tp : V} (h : PartsAt T H a td tw tg tp) {Q : V → Prop} (q : Q tw) : ∃ (a' C dx : Addr) (fs : List (Str × V)) (v : V), V.ref a = .ref a' ∧ H a' = some (.ins C dx fs) ∧ Cls K C ∧ NoAttr K C "won" ∧ fs.lookup ("won" : Str) = some v ∧ Q v := by
  obtain ⟨dx, fs, h1, h2⟩ := h
  exact ⟨a, _, dx, fs, _, rfl, h1, T.k_Score, T.n_Score_won, h2.won, q⟩
theorem PartsAt.games {T : Tx K mg} {H : Hp} {a : Addr} {td tw tg tp : V} (h : PartsAt T H a td tw tg tp) {Q : V → Prop} (q : Q tg) : ∃ (a' C dx : Addr) (fs : List (Str × V)) (v : V), V.ref a = .ref a' ∧ H a' = some (.ins C dx fs) ∧ Cls K C ∧ NoAttr K C "games" ∧ fs.lookup ("games" : Str) = some v ∧ Q v := by
  obtain ⟨dx, fs, h1, h2⟩ := h
  exact ⟨a, _, dx, fs, _, rfl, h1, T.k_Score, T.n_Score_games, h2.games, q⟩
theorem PartsAt.points {T : Tx K mg} {H : Hp} {a : Addr} {td tw tg tp : V} (h : PartsAt T H a td tw tg tp) {Q : V → Prop} (q : Q tp) : ∃ (a' C dx : Addr) (fs : List (Str × V)) (v : V), V.ref a = .ref a' ∧ H a' = some (.ins C dx fs) ∧ Cls K C ∧ NoAttr K C "points" ∧ fs.lookup ("points" : Str) = some v ∧ Q v := by
  obtain ⟨dx, fs, h1, h2⟩ := h
  exact ⟨a, _, dx, fs, _, rfl, h1, T.k_Score, T.n_Score_points, h2.points, q⟩
end
end Pt

end
section
set_option Elab.async false
set_option linter.all false
set_option maxRecDepth 100000
set_option maxHeartbeats 2000000
namespace Pt
open PySem PySem.Spec PyProof.Rows L2
open Ks301 (Rules Score)
section
variable {P : Program} {w : World} {K : PySem.W.Frag} {mg : Str → Option Value} {base : Heap}

/-! ### Rules(..), Score(..) -/
def sp_Rules_init (T : Tx K mg) : Sp := fun vs H Q _ => ∃ (p dx : Addr) (s g l h : V), vs = [.ref p, s, g, l, h] ∧ H p = some (.ins T.c_Rules dx []) ∧
  ∀ (H' : Hp) (fs : List (Str × V)), H' p = some (.ins T.c_Rules dx fs) → fs.lookup ("sets" : Str) = some s → fs.lookup ("games" : Str) = some g → fs.lookup ("long" : Str) = some l → fs.lookup ("short" : Str) = some h → fs.lookup ("winners" : Str) = none →
    (∀ b o, H b = some o → b ≠ p → H' b = some o) → Q .non H'
noncomputable def tmk_Rules_init_3 (T : Tx K mg) : Tm K mg ["self", "sets", "games", "long", "short"] "Rules.__init__" s_Rules_init T.f_Rules_init 0 ((defBody s_Rules_init).drop 3) :=
  ⟨_, fun cdv A outer s H E hr => pss_end (k := 3) rfl (show PS _ _ (sFld K _ _ _) from ps_fld (pv 0) (pv 4) rfl)⟩
noncomputable def t_Rules_init_3 (T : Tx K mg) : TS := (tmk_Rules_init_3 T).t
noncomputable def tmk_Rules_init_2 (T : Tx K mg) : Tm K mg ["self", "sets", "games", "long", "short"] "Rules.__init__" s_Rules_init T.f_Rules_init 0 ((defBody s_Rules_init).drop 2) :=
  ⟨tSeq _ (t_Rules_init_3 T), fun cdv A outer s H E hr => pss_at (k := 2) rfl (show PS _ _ (sFld K _ _ _) from ps_fld (pv 0) (pv 3) rfl)
    ((tmk_Rules_init_3 T).ok cdv A outer s H E hr)⟩
noncomputable def t_Rules_init_2 (T : Tx K mg) : TS := (tmk_Rules_init_2 T).t
noncomputable def tmk_Rules_init_1 (T : Tx K mg) : Tm K mg ["self", "sets", "games", "long", "short"] "Rules.__init__" s_Rules_init T.f_Rules_init 0 ((defBody s_Rules_init).drop 1) :=
  ⟨tSeq _ (t_Rules_init_2 T), fun cdv A outer s H E hr => pss_at (k := 1) rfl (show PS _ _ (sFld K _ _ _) from ps_fld (pv 0) (pv 2) rfl)
    ((tmk_Rules_init_2 T).ok cdv A outer s H E hr)⟩
noncomputable def t_Rules_init_1 (T : Tx K mg) : TS := (tmk_Rules_init_1 T).t
noncomputable def tmk_Rules_init_0 (T : Tx K mg) : Tm K mg ["self", "sets", "games", "long", "short"] "Rules.__init__" s_Rules_init T.f_Rules_init 0 ((defBody s_Rules_init).drop 0) :=
  ⟨tSeq _ (t_Rules_init_1 T), fun cdv A outer s H E hr => pss_at (k := 0) rfl (show PS _ _ (sFld K _ _ _) from ps_fld (pv 0) (pv 1) rfl)
    ((tmk_Rules_init_1 T).ok cdv A outer s H E hr)⟩
noncomputable def t_Rules_init_0 (T : Tx K mg) : TS := (tmk_Rules_init_0 T).t
theorem ok_Rules_init (T : Tx K mg) : FnOk P w K mg base CX0 1 T.f_Rules_init T.d_Rules_init ["self", "sets", "games", "long", "short"] (sp_Rules_init T) := by
  refine T.F_Rules_init.ok sc_Rules_init (fun vs H Q E h => ?_) (fun cdv A outer s H vs Q E hr h => ?_)
  · obtain ⟨p, dx, s, g, l, h, rfl, _⟩ := h
    rfl
  · obtain ⟨p, dx, vs, vg, vl, vh, rfl, hp, k⟩ := h
    refine ⟨t_Rules_init_0 T, (tmk_Rules_init_0 T).ok _ _ _ _ _ _ hr, ?_⟩
    refine (exE rfl (exE rfl (ex4 p _ dx [] ⟨rfl, hp, T.k_Rules, T.n_Rules_sets, (by decide), ?_⟩)))
    refine (exE rfl (exE rfl (ex4 p _ dx _ ⟨rfl, upd_same, T.k_Rules, T.n_Rules_games, pl1, ?_⟩)))
    refine (exE rfl (exE rfl (ex4 p _ dx _ ⟨rfl, upd_same, T.k_Rules, T.n_Rules_long, pl2, ?_⟩)))
    refine (exE rfl (exE rfl (ex4 p _ dx _ ⟨rfl, upd_same, T.k_Rules, T.n_Rules_short, pl3, ?_⟩)))
    refine k _ _ upd_same (look_miss (by decide +kernel) (look_miss (by decide +kernel) (look_miss (by decide +kernel) (look_hit _ _ _)))) (look_miss (by decide +kernel) (look_miss (by decide +kernel) (look_hit _ _ _))) (look_miss (by decide +kernel) (look_hit _ _ _)) (look_hit _ _ _)
      (look_miss (by decide +kernel) (look_miss (by decide +kernel) (look_miss (by decide +kernel) (look_miss (by decide +kernel) rfl)))) fun b o e hb => ?_
    rw [upd_ne hb, upd_ne hb, upd_ne hb, upd_ne hb]
    exact e
theorem mk_Rules {T : Tx K mg} {H : Hp} {Q : Addr → Hp → Prop} {E : XK} {r : Rules} (h : ∀ (p : Addr) (H1 : Hp), H p = none → Same H H1 → RulesAt T H1 p r → Q p H1) :
    ∀ x dx, H x = none → H dx = none → dx ≠ x → sp_Rules_init T (.ref x :: ([.int r.sets, .int r.games, .int (b01 r.long), .int (b01 r.short)] ++ [])) (upd (upd H dx (.own x)) x (.ins T.c_Rules dx [])) (fun v H2 => v = .non ∧ Q x H2) E :=
  fun x dx nx nd ne => ⟨x, dx, _, _, _, _, rfl, upd_same, fun H' fs h1 h2 h3 h4 h5 h6 kp => ⟨rfl, h x H' nx (Same.made nx nd kp) ⟨dx, fs, h1, h2, h3, h4, h5, h6⟩⟩⟩
def sp_Score_init (T : Tx K mg) : Sp := fun vs H Q _ => ∃ (p dx : Addr) (s g l h : V), vs = [.ref p, s, g, l, h] ∧ H p = some (.ins T.c_Score dx []) ∧
  ∀ (H' : Hp) (fs : List (Str × V)), H' p = some (.ins T.c_Score dx fs) → ScoreFs s g l h fs →
    (∀ b o, H b = some o → b ≠ p → H' b = some o) → Q .non H'
noncomputable def tmk_Score_init_3 (T : Tx K mg) : Tm K mg ["self", "done", "won", "games", "points"] "Score.__init__" s_Score_init T.f_Score_init 0 ((defBody s_Score_init).drop 3) :=
  ⟨_, fun cdv A outer s H E hr => pss_end (k := 3) rfl (show PS _ _ (sFld K _ _ _) from ps_fld (pv 0) (pv 4) rfl)⟩
noncomputable def t_Score_init_3 (T : Tx K mg) : TS := (tmk_Score_init_3 T).t
noncomputable def tmk_Score_init_2 (T : Tx K mg) : Tm K mg ["self", "done", "won", "games", "points"] "Score.__init__" s_Score_init T.f_Score_init 0 ((defBody s_Score_init).drop 2) :=
  ⟨tSeq _ (t_Score_init_3 T), fun cdv A outer s H E hr => pss_at (k := 2) rfl (show PS _ _ (sFld K _ _ _) from ps_fld (pv 0) (pv 3) rfl)
    ((tmk_Score_init_3 T).ok cdv A outer s H E hr)⟩
noncomputable def t_Score_init_2 (T : Tx K mg) : TS := (tmk_Score_init_2 T).t
noncomputable def tmk_Score_init_1 (T : Tx K mg) : Tm K mg ["self", "done", "won", "games", "points"] "Score.__init__" s_Score_init T.f_Score_init 0 ((defBody s_Score_init).drop 1) :=
  ⟨tSeq _ (t_Score_init_2 T), fun cdv A outer s H E hr => pss_at (k := 1) rfl (show PS _ _ (sFld K _ _ _) from ps_fld (pv 0) (pv 2) rfl)
    ((tmk_Score_init_2 T).ok cdv A outer s H E hr)⟩
noncomputable def t_Score_init_1 (T : Tx K mg) : TS := (tmk_Score_init_1 T).t
noncomputable def tmk_Score_init_0 (T : Tx K mg) : Tm K mg ["self", "done", "won", "games", "points"] "Score.__init__" s_Score_init T.f_Score_init 0 ((defBody s_Score_init).drop 0) :=
  ⟨tSeq _ (t_Score_init_1 T), fun cdv A outer s H E hr => pss_at (k := 0) rfl (show PS _ _ (sFld K _ _ _) from ps_fld (pv 0) (pv 1) rfl)
    ((tmk_Score_init_1 T).ok cdv A outer s H E hr)⟩
noncomputable def t_Score_init_0 (T : Tx K mg) : TS := (tmk_Score_init_0 T).t
theorem ok_Score_init (T : Tx K mg) : FnOk P w K mg base CX0 1 T.f_Score_init T.d_Score_init ["self", "done", "won", "games", "points"] (sp_Score_init T) := by
  refine T.F_Score_init.ok sc_Score_init (fun vs H Q E h => ?_) (fun cdv A outer s H vs Q E hr h => ?_)
  · obtain ⟨p, dx, s, g, l, h, rfl, _⟩ := h
    rfl
  · obtain ⟨p, dx, vs, vg, vl, vh, rfl, hp, k⟩ := h
    refine ⟨t_Score_init_0 T, (tmk_Score_init_0 T).ok _ _ _ _ _ _ hr, ?_⟩
    refine (exE rfl (exE rfl (ex4 p _ dx [] ⟨rfl, hp, T.k_Score, T.n_Score_done, (by decide), ?_⟩)))
    refine (exE rfl (exE rfl (ex4 p _ dx _ ⟨rfl, upd_same, T.k_Score, T.n_Score_won, pl1, ?_⟩)))
    refine (exE rfl (exE rfl (ex4 p _ dx _ ⟨rfl, upd_same, T.k_Score, T.n_Score_games, pl2, ?_⟩)))
    refine (exE rfl (exE rfl (ex4 p _ dx _ ⟨rfl, upd_same, T.k_Score, T.n_Score_points, pl3, ?_⟩)))
    refine k _ _ upd_same ⟨look_miss (by decide +kernel) (look_miss (by decide +kernel) (look_miss (by decide +kernel) (look_hit _ _ _))), look_miss (by decide +kernel) (look_miss (by decide +kernel) (look_hit _ _ _)), look_miss (by decide +kernel) (look_hit _ _ _), look_hit _ _ _,
      look_miss (by decide +kernel) (look_miss (by decide +kernel) (look_miss (by decide +kernel) (look_miss (by decide +kernel) rfl)))⟩ fun b o e hb => ?_
    rw [upd_ne hb, upd_ne hb, upd_ne hb, upd_ne hb]
    exact e
theorem mk_Score {T : Tx K mg} {H : Hp} {Q : Addr → Hp → Prop} {E : XK} {vd vw vg vp : V} (h : ∀ (p : Addr) (H1 : Hp), H p = none → Same H H1 → PartsAt T H1 p vd vw vg vp → Q p H1) :
    ∀ x dx, H x = none → H dx = none → dx ≠ x → sp_Score_init T (.ref x :: ([vd, vw, vg, vp] ++ [])) (upd (upd H dx (.own x)) x (.ins T.c_Score dx [])) (fun v H2 => v = .non ∧ Q x H2) E :=
  fun x dx nx nd ne => ⟨x, dx, _, _, _, _, rfl, upd_same, fun H' fs h1 h2 kp => ⟨rfl, h x H' nx (Same.made nx nd kp) ⟨dx, fs, h1, h2⟩⟩⟩

/-- a number up to the most is the most just if it isn't below -/
theorem eq_top {a b : Nat} (h : a ≤ b) : ((a : Int) == (b : Int)) = decide (b ≤ a) :=
  if e : a = b then by
    subst e
    rw [beq_self_eq_true, decide_eq_true (Nat.le_refl _)]
  else by
    rw [beq_eq_false_iff_ne.mpr (show (a : Int) ≠ (b : Int) from fun z => e (Int.ofNat.inj z)), decide_eq_false (fun z => e (Nat.le_antisymm h z))]
/-! ### the small ones -/
def sp_match_over (T : Tx K mg) : Sp := fun vs H Q _ => ∃ (ra sa : Addr) (r : Rules) (s : Score), vs = [.ref ra, .ref sa] ∧ RulesAt T H ra r ∧ ScoreAt T H sa s ∧ Ks301.setsOf true s.done ≤ r.sets ∧ Ks301.setsOf false s.done ≤ r.sets ∧ Q (.bl (Ks301.over r s.done)) H
noncomputable def tmk_match_over_0 (T : Tx K mg) : Tm K mg ["rules", "score"] "match_over" s_match_over T.f_match_over 0 ((defBody s_match_over).drop 0) :=
  ⟨_, fun cdv A outer s H E hr => pss_end (k := 0) rfl (ps_ret (pe_cmpR (show OpR _ _ (rIn K false) from op_in_seq) (show PE _ _ (tFld K _ _) from pe_fld (pv 0) rfl) (show PE _ _ (tFld K _ _) from pe_fld (pv 1) rfl) (by with_unfolding_all rfl)))⟩
noncomputable def t_match_over_0 (T : Tx K mg) : TS := (tmk_match_over_0 T).t
theorem ok_match_over (T : Tx K mg) : FnOk P w K mg base CX0 1 T.f_match_over T.d_match_over ["rules", "score"] (sp_match_over T) := by
  refine T.F_match_over.ok sc_match_over (fun vs H Q E h => ?_) (fun cdv A outer s H vs Q E hr h => ?_)
  · obtain ⟨_, _, _, _, rfl, _⟩ := h
    rfl
  · obtain ⟨ra, sa, r, s, rfl, hR, hS, wa, wb, k⟩ := h
    obtain ⟨td, tw, tg, tp, ts, h1, h2, h3, h4, h5⟩ := hS.ex
    refine ⟨t_match_over_0 T, (tmk_match_over_0 T).ok _ _ _ _ _ _ hr, ?_⟩
    refine ((exE rfl (hR.sets ((exE rfl (h1.won (ex2 tw _ ⟨rfl, .inr (SqT.of h3), rfl, rfl, ?_⟩)))))))
    have e : (if false = true then !inV (V.int r.sets) [V.int (Ks301.setsOf true s.done), V.int (Ks301.setsOf false s.done)] else inV (V.int r.sets) [V.int (Ks301.setsOf true s.done), V.int (Ks301.setsOf false s.done)]) = Ks301.over r s.done := by
      rw [if_neg Bool.false_ne_true]
      show (((Ks301.setsOf true s.done : Nat) : Int) == (r.sets : Int) || (((Ks301.setsOf false s.done : Nat) : Int) == (r.sets : Int) || false)) = Ks301.over r s.done
      unfold Ks301.over
      rw [Bool.or_false, eq_top wa, eq_top wb]
    rw [e]
    exact k

/-! ### pairs -/
theorem dp2 {K : PySem.W.Frag} {H : Hp} {a : Addr} {x y : Int} (h : H a = some (.tup [.int x, .int y])) : Dp K H (.ref a) (.tuple [.int x, .int y]) :=
  .tup (SqT.of h) (.cons (.int x) (.cons (.int y) .nil))
theorem shaped2 (x y : Int) : SeqAt.shaped (.tuple [.int x, .int y]) = true := by rfl
theorem eqv2 (a b c d : Int) : PyData.eqv (.tuple [.int a, .int b]) (.tuple [.int c, .int d]) = (decide (a = c) && decide (b = d)) := by
  by_cases h1 : a = c <;> by_cases h2 : b = d <;> simp [PyData.eqv, PyData.eqvAll, h1, h2]
theorem eq_pair {K : PySem.W.Frag} {H : Hp} {a b : Addr} {x y z u : Int} {Q : VK} (ha : H a = some (.tup [.int x, .int y])) (hb : H b = some (.tup [.int z, .int u])) (q : Q (.bl (decide (x = z) && decide (y = u))) H) : rEqD K (.ref a) (.ref b) H Q := by
  refine ⟨_, _, dp2 ha, dp2 hb, shaped2 _ _, shaped2 _ _, ?_⟩
  rw [eqv2]
  exact q
theorem b01_is (b : Bool) : decide (V.int (b01 b) = V.int 1) = b := by cases b <;> rfl
theorem b01_no (b : Bool) : decide (V.int (b01 b) = V.int 0) = !b := by cases b <;> rfl
theorem int_is (a b : Nat) : decide (V.int (a : Int) = V.int (b : Int)) = decide (a = b) := by
  rw [Bool.eq_iff_iff]
  simp
  omega
def sp_goes_on_without_tie_break (T : Tx K mg) : Sp := fun vs H Q _ => ∃ (ra sa : Addr) (r : Rules) (s : Score), vs = [.ref ra, .ref sa] ∧ RulesAt T H ra r ∧ ScoreAt T H sa s ∧ ∀ H', Same H H' → Q (.bl (Ks301.isLong r s.done)) H'
noncomputable def tmk_goes_on_without_tie_break_0 (T : Tx K mg) : Tm K mg ["rules", "score"] "goes_on_without_tie_break" s_goes_on_without_tie_break T.f_goes_on_without_tie_break 0 ((defBody s_goes_on_without_tie_break).drop 0) :=
  ⟨_, fun cdv A outer s H E hr => pss_end (k := 0) rfl (ps_ret (pe_and (pe_cmpR op_eq (show PE _ _ (tFld K _ _) from pe_fld (pv 0) rfl) pe_int (nomark _)) (pe_one (pe_cmpR (show OpR _ _ (rEqD K) from op_eqD hr.units) (show PE _ _ (tFld K _ _) from pe_fld (pv 1) rfl) (pe_tup (pa_cons (pe_op op_sub (show PE _ _ (tFld K _ _) from pe_fld (pv 0) rfl) pe_int) (pa_cons (pe_op op_sub (show PE _ _ (tFld K _ _) from pe_fld (pv 0) rfl) pe_int) pa_nil))) (nomark _)))))⟩
noncomputable def t_goes_on_without_tie_break_0 (T : Tx K mg) : TS := (tmk_goes_on_without_tie_break_0 T).t
theorem ok_goes_on_without_tie_break (T : Tx K mg) : FnOk P w K mg base CX0 1 T.f_goes_on_without_tie_break T.d_goes_on_without_tie_break ["rules", "score"] (sp_goes_on_without_tie_break T) := by
  refine T.F_goes_on_without_tie_break.ok sc_goes_on_without_tie_break (fun vs H Q E h => ?_) (fun cdv A outer s H vs Q E hr h => ?_)
  · obtain ⟨_, _, _, _, rfl, _⟩ := h
    rfl
  · obtain ⟨ra, sa, r, s, rfl, hR, hS, k⟩ := h
    obtain ⟨td, tw, tg, tp, ts, h1, h2, h3, h4, h5⟩ := hS.ex
    refine ⟨t_goes_on_without_tie_break_0 T, (tmk_goes_on_without_tie_break_0 T).ok _ _ _ _ _ _ hr, ?_⟩
    refine ((exE rfl (hR.long ⟨rfl, exE rfl ?_⟩)))
    refine ite2 (fun c => ?_) (fun c => ?_)
    · rw [b01_is] at c
      refine ((exE rfl (h1.won ((exE rfl (hR.sets (ii2 (exE rfl (hR.sets (ii2 ⟨(sz rfl), fun p hp => ?_⟩))))))))))
      generalize hU1 : upd _ p _ = H1
      obtain ⟨s1, hP⟩ := new_of hp hU1
      refine eq_pair (s1 _ _ h3) hP ?_
      have e : (decide ((Ks301.setsOf true s.done : Int) = (r.sets : Int) - 1) && decide ((Ks301.setsOf false s.done : Int) = (r.sets : Int) - 1)) = Ks301.isLong r s.done := by
        rw [Bool.eq_iff_iff, Pd.isLong_t]
        simp [c]
        omega
      rw [e]
      exact k _ s1
    · rw [b01_is] at c
      have e : Ks301.isLong r s.done = false := by
        cases q : Ks301.isLong r s.done with
        | false => rfl
        | true => exact absurd (Pd.isLong_t.mp q).1 c
      rw [← e]
      exact k _ (Same.refl _)
def sp_in_tie_break (T : Tx K mg) : Sp := fun vs H Q _ => ∃ (ra sa : Addr) (r : Rules) (s : Score), vs = [.ref ra, .ref sa] ∧ RulesAt T H ra r ∧ ScoreAt T H sa s ∧ ∀ H', Same H H' → Q (.bl (Ks301.tie r s)) H'
noncomputable def tmk_in_tie_break_0 (T : Tx K mg) : Tm K mg ["rules", "score"] "in_tie_break" s_in_tie_break T.f_in_tie_break 1 ((defBody s_in_tie_break).drop 0) :=
  ⟨_, fun cdv A outer s H E hr => pss_end (k := 0) rfl (ps_ret (pe_and (pe_cmpR (show OpR _ _ (rEqD K) from op_eqD hr.units) (show PE _ _ (tFld K _ _) from pe_fld (pv 1) rfl) (pe_tup (pa_cons (show PE _ _ (tFld K _ _) from pe_fld (pv 0) rfl) (pa_cons (show PE _ _ (tFld K _ _) from pe_fld (pv 0) rfl) pa_nil))) (nomark _)) (pe_one (pe_not (pe_call (ok_goes_on_without_tie_break T) (hr.mono (by decide)) rfl T.g_goes_on_without_tie_break T.F_goes_on_without_tie_break.kp T.b_goes_on_without_tie_break .nil pass0 (pa_cons (pv 0) (pa_cons (pv 1) pa_nil)))))))⟩
noncomputable def t_in_tie_break_0 (T : Tx K mg) : TS := (tmk_in_tie_break_0 T).t
theorem ok_in_tie_break (T : Tx K mg) : FnOk P w K mg base CX0 2 T.f_in_tie_break T.d_in_tie_break ["rules", "score"] (sp_in_tie_break T) := by
  refine T.F_in_tie_break.ok sc_in_tie_break (fun vs H Q E h => ?_) (fun cdv A outer s H vs Q E hr h => ?_)
  · obtain ⟨_, _, _, _, rfl, _⟩ := h
    rfl
  · obtain ⟨ra, sa, r, s, rfl, hR, hS, k⟩ := h
    obtain ⟨td, tw, tg, tp, ts, h1, h2, h3, h4, h5⟩ := hS.ex
    refine ⟨t_in_tie_break_0 T, (tmk_in_tie_break_0 T).ok _ _ _ _ _ _ hr, ?_⟩
    refine ((exE rfl (h1.games ((exE rfl (hR.games ((exE rfl (hR.games ⟨(sz rfl), fun p hp => ?_⟩)))))))))
    generalize hU2 : upd _ p _ = H1
    obtain ⟨s1, hP⟩ := new_of hp hU2
    refine eq_pair (s1 _ _ h4) hP (exE rfl ?_)
    refine ite2 (fun c => ?_) (fun c => ?_)
    · refine (exE rfl (exE rfl (ex4 ra sa r s ⟨rfl, hR.imm s1.imm, hS.imm s1.imm, fun H2 s2 => (exE rfl ?_)⟩)))
      have e : (!Ks301.isLong r s.done) = Ks301.tie r s := by
        simp at c
        rw [Bool.eq_iff_iff, Pd.tie_t]
        have c1 : s.ga = r.games := by omega
        have c2 : s.gb = r.games := by omega
        simp [c1, c2]
      rw [e]
      exact k _ (s1.trans s2)
    · have e : Ks301.tie r s = false := by
        cases q : Ks301.tie r s with
        | false => rfl
        | true =>
          have z := Pd.tie_t.mp q
          exact absurd (by simp [z.1, z.2.1]) c
      rw [← e]
      exact k _ s1
def sp_one_more (T : Tx K mg) : Sp := fun vs H Q _ => ∃ (a : Addr) (p q : Nat) (x : Bool), vs = [.ref a, .int (who x)] ∧ T2 H a p q ∧ ∀ (b : Addr) (H' : Hp), Same H H' → T2 H' b (Pd.one p q x).1 (Pd.one p q x).2 → Q (.ref b) H'
noncomputable def tmk_one_more_0 (T : Tx K mg) : Tm K mg ["pair", "who"] "one_more" s_one_more T.f_one_more 0 ((defBody s_one_more).drop 0) :=
  ⟨_, fun cdv A outer s H E hr => pss_end (k := 0) rfl (ps_ret (pe_ifExp (pt_cmpR op_eq (pv 1) pe_int (nomark _)) (pe_tup (pa_cons (pe_op op_add (pe_ix (show IxR _ (rIxT K) from ix_tup) (pv 0) pe_int (fun _ _ => rfl)) pe_int) (pa_cons (pe_ix (show IxR _ (rIxT K) from ix_tup) (pv 0) pe_int (fun _ _ => rfl)) pa_nil))) (pe_tup (pa_cons (pe_ix (show IxR _ (rIxT K) from ix_tup) (pv 0) pe_int (fun _ _ => rfl)) (pa_cons (pe_op op_add (pe_ix (show IxR _ (rIxT K) from ix_tup) (pv 0) pe_int (fun _ _ => rfl)) pe_int) pa_nil)))))⟩
noncomputable def t_one_more_0 (T : Tx K mg) : TS := (tmk_one_more_0 T).t
theorem ok_one_more (T : Tx K mg) : FnOk P w K mg base CX0 1 T.f_one_more T.d_one_more ["pair", "who"] (sp_one_more T) := by
  refine T.F_one_more.ok sc_one_more (fun vs H Q E h => ?_) (fun cdv A outer s H vs Q E hr h => ?_)
  · obtain ⟨_, _, _, _, rfl, _⟩ := h
    rfl
  · obtain ⟨a, p, q, x, rfl, hT, k⟩ := h
    refine ⟨t_one_more_0 T, (tmk_one_more_0 T).ok _ _ _ _ _ _ hr, ?_⟩
    refine (exE rfl ⟨rfl, exE rfl ?_⟩)
    cases x with
    | true =>
      refine iteT (exE rfl (ixn (j := 0) (SqT.of hT) rfl rfl (ii2 (exE rfl (ixn (j := 1) (SqT.of hT) rfl rfl ⟨(sz rfl), fun b hb => ?_⟩)))))
      generalize hU3 : upd _ b _ = H1
      obtain ⟨s1, hP⟩ := new_of hb hU3
      exact k b H1 s1 hP
    | false =>
      refine iteF (exE rfl (ixn (j := 0) (SqT.of hT) rfl rfl (exE rfl (ixn (j := 1) (SqT.of hT) rfl rfl (ii2 ⟨(sz rfl), fun b hb => ?_⟩)))))
      generalize hU4 : upd _ b _ = H1
      obtain ⟨s1, hP⟩ := new_of hb hU4
      exact k b H1 s1 hP
def sp_has_won (T : Tx K mg) : Sp := fun vs H Q _ => ∃ (a : Addr) (p q : Nat) (x : Bool) (least lead : Nat), vs = [.ref a, .int (who x), .int least, .int lead] ∧ T2 H a p q ∧ Q (.bl (Pd.has x p q least lead)) H
noncomputable def tmk_has_won_0 (T : Tx K mg) : Tm K mg ["pair", "who", "least", "lead"] "has_won" s_has_won T.f_has_won 0 ((defBody s_has_won).drop 0) :=
  ⟨_, fun cdv A outer s H E hr => pss_end (k := 0) rfl (ps_ret (pe_and (pe_cmpR op_ge (pe_ix (show IxR _ (rIxT K) from ix_tup) (pv 0) (pv 1) (fun _ _ => rfl)) (pv 2) (nomark _)) (pe_one (pe_cmpR op_ge (pe_op op_sub (pe_ix (show IxR _ (rIxT K) from ix_tup) (pv 0) (pv 1) (fun _ _ => rfl)) (pe_ix (show IxR _ (rIxT K) from ix_tup) (pv 0) (pe_op op_sub pe_int (pv 1)) (fun _ _ => rfl))) (pv 3) (nomark _)))))⟩
noncomputable def t_has_won_0 (T : Tx K mg) : TS := (tmk_has_won_0 T).t
theorem ok_has_won (T : Tx K mg) : FnOk P w K mg base CX0 1 T.f_has_won T.d_has_won ["pair", "who", "least", "lead"] (sp_has_won T) := by
  refine T.F_has_won.ok sc_has_won (fun vs H Q E h => ?_) (fun cdv A outer s H vs Q E hr h => ?_)
  · obtain ⟨_, _, _, _, _, _, rfl, _⟩ := h
    rfl
  · obtain ⟨a, p, q, x, least, lead, rfl, hT, k⟩ := h
    refine ⟨t_has_won_0 T, (tmk_has_won_0 T).ok _ _ _ _ _ _ hr, ?_⟩
    cases x with
    | true =>
      refine (exE rfl (exE rfl (ixn (j := 0) (SqT.of hT) rfl rfl (exE rfl (ii2 (exE rfl ?_))))))
      refine ite2 (fun c => ?_) (fun c => ?_)
      · refine (exE rfl (exE rfl (ixn (j := 0) (SqT.of hT) rfl rfl (exE rfl (exE rfl (ii2 (ixn (j := 1) (SqT.of hT) rfl rfl (ii2 (exE rfl (ii2 ?_))))))))))
        have e : decide ((lead : Int) ≤ (p : Int) - (q : Int)) = Pd.has true p q least lead := by
          simp at c
          rw [Bool.eq_iff_iff]
          simp [Pd.has]
          omega
        rw [← e] at k
        exact k
      · have e : Pd.has true p q least lead = false := by
          simp at c
          rw [← Bool.not_eq_true]
          simp [Pd.has]
          omega
        rw [← e]
        exact k
    | false =>
      refine (exE rfl (exE rfl (ixn (j := 1) (SqT.of hT) rfl rfl (exE rfl (ii2 (exE rfl ?_))))))
      refine ite2 (fun c => ?_) (fun c => ?_)
      · refine (exE rfl (exE rfl (ixn (j := 1) (SqT.of hT) rfl rfl (exE rfl (exE rfl (ii2 (ixn (j := 0) (SqT.of hT) rfl rfl (ii2 (exE rfl (ii2 ?_))))))))))
        have e : decide ((lead : Int) ≤ (q : Int) - (p : Int)) = Pd.has false p q least lead := by
          simp at c
          rw [Bool.eq_iff_iff]
          simp [Pd.has]
          omega
        rw [← e] at k
        exact k
      · have e : Pd.has false p q least lead = false := by
          simp at c
          rw [← Bool.not_eq_true]
          simp [Pd.has]
          omega
        rw [← e]
        exact k
end
end Pt

end
section
set_option Elab.async false
set_option linter.all false
set_option maxRecDepth 100000
set_option maxHeartbeats 2000000
namespace Pt
open PySem PySem.Spec PyProof.Rows L2
open Ks301 (Rules Score)
/-- the rest of a block, told once -/
theorem seq_by {q t u : TS} {D : Ends} {σ : L2.St} {H : Hp} (e : q = tSeq t u) (M : L2.St → Hp → Prop) (h2 : ∀ σ' H', M σ' H' → u D σ' H') (h1 : (∀ σ' H', M σ' H' → u D σ' H') → t { D with nx := u D } σ H) : q D σ H := by
  subst e
  exact h1 h2
theorem paired_snoc {α β : Type} {R : α → β → Prop} {a : α} {b : β} (r : R a b) : ∀ {xs : List α} {ys : List β}, Paired R xs ys → Paired R (xs ++ [a]) (ys ++ [b])
  | _, _, .nil => .cons r .nil
  | _, _, .cons q t => .cons q (paired_snoc r t)
section
variable {P : Program} {w : World} {K : PySem.W.Frag} {mg : Str → Option Value} {base : Heap}
/-- a Score from its parts -/
theorem ScoreAt.mk' {T : Tx K mg} {H : Hp} {a td tw tg tp : Addr} {ts : List Addr} {s : Score} (h1 : PartsAt T H a (.ref td) (.ref tw) (.ref tg) (.ref tp)) (h2 : DoneAt H td ts s.done) (h3 : T2 H tw (Ks301.setsOf true s.done) (Ks301.setsOf false s.done)) (h4 : T2 H tg s.ga s.gb) (h5 : T2 H tp s.pa s.pb) : ScoreAt T H a s :=
  ⟨td, tw, tg, tp, ts, h1, h2, h3, h4, h5⟩
def sp_first_score (T : Tx K mg) : Sp := fun vs H Q _ => vs = [] ∧ ∀ (a : Addr) (H' : Hp), H a = none → Same H H' → ScoreAt T H' a Ks301.start → Q (.ref a) H'
noncomputable def tmk_first_score_0 (T : Tx K mg) : Tm K mg [] "first_score" s_first_score T.f_first_score 2 ((defBody s_first_score).drop 0) :=
  ⟨_, fun cdv A outer s H E hr => pss_end (k := 0) rfl (ps_ret (pe_make T.mk_Score (ok_Score_init T) (hr.mono (by decide)) rfl T.g_Score T.b_Score_init .nil pass0 (pa_cons (pe_tup pa_nil) (pa_cons (pe_tup (pa_cons pe_int (pa_cons pe_int pa_nil))) (pa_cons (pe_tup (pa_cons pe_int (pa_cons pe_int pa_nil))) (pa_cons (pe_tup (pa_cons pe_int (pa_cons pe_int pa_nil))) pa_nil))))))⟩
noncomputable def t_first_score_0 (T : Tx K mg) : TS := (tmk_first_score_0 T).t
theorem ok_first_score (T : Tx K mg) : FnOk P w K mg base CX0 3 T.f_first_score T.d_first_score [] (sp_first_score T) := by
  refine T.F_first_score.ok sc_first_score (fun vs H Q E h => ?_) (fun cdv A outer s H vs Q E hr h => ?_)
  · obtain ⟨rfl, _⟩ := h
    rfl
  · obtain ⟨rfl, k⟩ := h
    refine ⟨t_first_score_0 T, (tmk_first_score_0 T).ok _ _ _ _ _ _ hr, ?_⟩
    refine ⟨(sz rfl), fun p1 n1 => ?_⟩
    generalize hU5 : upd _ p1 _ = H1
    obtain ⟨s1, e1⟩ := new_of n1 hU5
    refine ⟨(sz rfl), fun p2 n2 => ?_⟩
    generalize hU6 : upd _ p2 _ = H2
    obtain ⟨s2, e2⟩ := new_of n2 hU6
    refine ⟨(sz rfl), fun p3 n3 => ?_⟩
    generalize hU7 : upd _ p3 _ = H3
    obtain ⟨s3, e3⟩ := new_of n3 hU7
    refine ⟨(sz rfl), fun p4 n4 => ?_⟩
    generalize hU8 : upd _ p4 _ = H4
    obtain ⟨s4, e4⟩ := new_of n4 hU8
    refine mk_Score fun a H5 n5 s5 hP => ?_
    have s25 := ((s3.trans s4).trans s5)
    refine k a H5 ((((s1.trans s2).trans s3).trans s4).free n5) ((s1.trans s2).trans s25) ?_
    exact ScoreAt.mk' (ts := []) hP ⟨s25 _ _ (s2 _ _ e1), .nil⟩ (s25 _ _ e2) ((s4.trans s5) _ _ e3) (s5 _ _ e4)
def sp_after_set (T : Tx K mg) : Sp := fun vs H Q _ => ∃ (sa ga : Addr) (s : Score) (g : Nat × Nat) (t : Nat), vs = [.ref sa, .ref ga, .int t] ∧ ScoreAt T H sa s ∧ T2 H ga g.1 g.2 ∧ g.1 ≠ g.2 ∧ s.done.length ≤ 1000 ∧
  ∀ (a : Addr) (H' : Hp), Same H H' → ScoreAt T H' a (Pd.aftSet s g t) → Q (.ref a) H'
noncomputable def tmk_after_set_2 (T : Tx K mg) : Tm K mg ["score", "games", "loser_points", "done", "won"] "after_set" s_after_set T.f_after_set 2 ((defBody s_after_set).drop 2) :=
  ⟨_, fun cdv A outer s H E hr => pss_end (k := 2) rfl (ps_ret (pe_make T.mk_Score (ok_Score_init T) (hr.mono (by decide)) rfl T.g_Score T.b_Score_init .nil pass0 (pa_cons (pv 3) (pa_cons (pv 4) (pa_cons (pe_tup (pa_cons pe_int (pa_cons pe_int pa_nil))) (pa_cons (pe_tup (pa_cons pe_int (pa_cons pe_int pa_nil))) pa_nil))))))⟩
noncomputable def t_after_set_2 (T : Tx K mg) : TS := (tmk_after_set_2 T).t
noncomputable def tmk_after_set_1 (T : Tx K mg) : Tm K mg ["score", "games", "loser_points", "done", "won"] "after_set" s_after_set T.f_after_set 2 ((defBody s_after_set).drop 1) :=
  ⟨tSeq _ (t_after_set_2 T), fun cdv A outer s H E hr => pss_at (k := 1) rfl (ps_set (i := 4) sc_after_set.nd rfl (Or.inl rfl) (pe_call (ok_one_more T) (hr.mono (by decide)) rfl T.g_one_more T.F_one_more.kp T.b_one_more .nil pass0 (pa_cons (show PE _ _ (tFld K _ _) from pe_fld (pv 0) rfl) (pa_cons (Pr.pe_mid (pe_ifExp (pt_cmpR op_gt (pe_ix (show IxR _ (rIxT K) from ix_tup) (pv 1) pe_int (fun _ _ => rfl)) (pe_ix (show IxR _ (rIxT K) from ix_tup) (pv 1) pe_int (fun _ _ => rfl)) (nomark _)) pe_int pe_int)) pa_nil))))
    ((tmk_after_set_2 T).ok cdv A outer s H E hr)⟩
noncomputable def t_after_set_1 (T : Tx K mg) : TS := (tmk_after_set_1 T).t
noncomputable def smk_after_set_0 (T : Tx K mg) : Sm K mg ["score", "games", "loser_points", "done", "won"] "after_set" s_after_set T.f_after_set 2 ((defBody s_after_set).getD 0 (.Pass ⟨0, 0, 0, 0⟩)) :=
  ⟨_, fun cdv A outer s H E hr => ps_at (k := 0) rfl (ps_set (i := 3) sc_after_set.nd rfl (Or.inl rfl) (pe_op (show OpR _ _ (Pr.rCatA K) from Pr.op_catA) (show PE _ _ (tFld K _ _) from pe_fld (pv 0) rfl) (pe_tup (pa_cons (pe_tup (pa_cons (pe_ix (show IxR _ (rIxT K) from ix_tup) (pv 1) pe_int (fun _ _ => rfl)) (pa_cons (pe_ix (show IxR _ (rIxT K) from ix_tup) (pv 1) pe_int (fun _ _ => rfl)) (pa_cons (pv 2) pa_nil)))) pa_nil))))⟩
noncomputable def u_after_set_0 (T : Tx K mg) : TS := (smk_after_set_0 T).t
noncomputable def tmk_after_set_0 (T : Tx K mg) : Tm K mg ["score", "games", "loser_points", "done", "won"] "after_set" s_after_set T.f_after_set 2 ((defBody s_after_set).drop 0) :=
  ⟨tSeq (u_after_set_0 T) (t_after_set_1 T), fun cdv A outer s H E hr => pss_cut (k := 0) rfl ((smk_after_set_0 T).ok cdv A outer s H E hr) ((tmk_after_set_1 T).ok cdv A outer s H E hr)⟩
noncomputable def t_after_set_0 (T : Tx K mg) : TS := (tmk_after_set_0 T).t
theorem e_after_set_0 (T : Tx K mg) : t_after_set_0 T = tSeq (u_after_set_0 T) (t_after_set_1 T) := rfl
theorem ok_after_set (T : Tx K mg) : FnOk P w K mg base CX0 3 T.f_after_set T.d_after_set ["score", "games", "loser_points"] (sp_after_set T) := by
  refine T.F_after_set.ok sc_after_set (fun vs H Q E h => ?_) (fun cdv A outer s H vs Q E hr h => ?_)
  · obtain ⟨_, _, _, _, _, rfl, _⟩ := h
    rfl
  · obtain ⟨sa, ga, s, ⟨g1, g2⟩, t, rfl, hS, hG, hne, hlen, k⟩ := h
    obtain ⟨td, tw, tg, tp, ts, h1, h2, h3, h4, h5⟩ := hS.ex
    have hG' : H ga = some (.tup [.int g1, .int g2]) := hG
    have hl : ts.length = s.done.length := Paired.length h2.each
    refine ⟨t_after_set_0 T, (tmk_after_set_0 T).ok _ _ _ _ _ _ hr, ?_⟩
    refine seq_by (e_after_set_0 T) (fun σ' H' => ∃ d us, σ' = [some (.ref sa), some (.ref ga), some (.int t), some (.ref d), none] ∧ Same H H' ∧ DoneAt H' d us (s.done ++ [(g1, g2, t)])) ?_ (fun rest => ?_)
    · rintro σ' H1 ⟨d, us, rfl, s1, hd⟩
      have hG1 := s1 _ _ hG'
      refine ((exE rfl ((h1.imm s1.imm).won ⟨fun v H' => v = .int (who (decide (g2 < g1))) ∧ H' = H1, (exE rfl (ixn (j := 0) (SqT.of hG1) rfl rfl (exE rfl (ixn (j := 1) (SqT.of hG1) rfl rfl (ii2 (exE rfl ?_)))))), ?_⟩)))
      · refine ite2 (fun c => ⟨?_, rfl⟩) (fun c => ⟨?_, rfl⟩)
        · have c' : g2 < g1 := by simp at c; omega
          rw [decide_eq_true c']
          rfl
        · have c' : ¬ g2 < g1 := by simp at c; omega
          rw [decide_eq_false c']
          rfl
      · rintro v H' ⟨rfl, rfl⟩
        refine (ex4 tw _ _ (decide (g2 < g1)) ⟨rfl, h3.imm s1.imm, fun b H2 s2 hb => ?_⟩)
        have hb2 : T2 H2 b (Ks301.setsOf true (s.done ++ [(g1, g2, t)])) (Ks301.setsOf false (s.done ++ [(g1, g2, t)])) := by
          have hne' : g1 ≠ g2 := hne
          rw [Pd.setsOf_t, Pd.setsOf_f]
          by_cases c : g2 < g1
          · rw [decide_eq_true c] at hb
            rw [if_pos c, if_neg (by omega)]
            exact hb
          · rw [decide_eq_false c] at hb
            rw [if_neg c, if_pos (by omega)]
            exact hb
        refine (exE rfl (exE rfl ⟨(sz rfl), fun p3 n3 => ?_⟩))
        generalize hU9 : upd _ p3 _ = H3
        obtain ⟨s3, e3⟩ := new_of n3 hU9
        refine ⟨(sz rfl), fun p4 n4 => ?_⟩
        generalize hU10 : upd _ p4 _ = H4
        obtain ⟨s4, e4⟩ := new_of n4 hU10
        refine mk_Score fun p H5 n5 s5 hP => ?_
        have s25 := (s3.trans s4).trans s5
        refine k p H5 ((s1.trans s2).trans s25) ?_
        exact ScoreAt.mk' (s := Pd.aftSet s (g1, g2) t) hP (hd.imm (s2.trans s25).imm) (hb2.imm s25.imm) ((s4.trans s5) _ _ e3) (s5 _ _ e4)
    · refine ((exE rfl (h1.done (exE rfl (ixn (j := 0) (SqT.of hG') rfl rfl (exE rfl (ixn (j := 1) (SqT.of hG') rfl rfl (exE rfl ⟨(sz rfl), fun p1 n1 => ?_⟩))))))))
      generalize hU11 : upd _ p1 _ = H1
      obtain ⟨s1, e1⟩ := new_of n1 hU11
      refine ⟨(sz rfl), fun p2 n2 => ?_⟩
      generalize hU12 : upd _ p2 _ = H2
      obtain ⟨s2, e2⟩ := new_of n2 hU12
      have d2 : DoneAt H2 td ts s.done := h2.imm (s1.trans s2).imm
      refine (ex4 td p2 _ _ ⟨rfl, rfl, SqT.of d2.tup, SqT.of e2, (by rw [List.length_map, hl]; show s.done.length + 1 ≤ sizeLine; rw [sizeLine_eq]; omega), fun z => ?_, fun _ z => (by cases z), fun z _ => ?_⟩)
      · have z2 : ts = [] := List.map_eq_nil_iff.mp z
        have z3 : s.done = [] := List.eq_nil_of_length_eq_zero (by rw [← hl, z2]; rfl)
        refine rest _ H2 (ex2 p2 [p1] ⟨rfl, s1.trans s2, e2, ?_⟩)
        rw [z3]
        exact .cons (s2 _ _ e1) .nil
      · refine fun p3 n3 => ?_
        generalize hU13 : upd _ p3 _ = H3
        obtain ⟨s3, e3⟩ := new_of n3 hU13
        refine rest _ H3 (ex2 p3 (ts ++ [p1]) ⟨rfl, (s1.trans s2).trans s3, ?_, ?_⟩)
        · rw [List.map_append]
          exact e3
        · exact paired_snoc (R := T3 H3) ((s2.trans s3) _ _ e1) (d2.imm s3.imm).each
def sp_after_game (T : Tx K mg) : Sp := fun vs H Q _ => ∃ (ra sa : Addr) (r : Rules) (s : Score) (x : Bool), vs = [.ref ra, .ref sa, .int (who x)] ∧ RulesAt T H ra r ∧ ScoreAt T H sa s ∧ s.done.length ≤ 1000 ∧
  ∀ (a : Addr) (H' : Hp), Same H H' → ScoreAt T H' a (Pd.aftGame r s x) → Q (.ref a) H'
theorem has_ne {x : Bool} {p q least lead : Nat} (h0 : 0 < lead) (h : Pd.has x p q least lead = true) : p ≠ q := by
  cases x <;> simp [Pd.has] at h <;> omega
noncomputable def tmk_after_game_2 (T : Tx K mg) : Tm K mg ["rules", "score", "who", "games"] "after_game" s_after_game T.f_after_game 3 ((defBody s_after_game).drop 2) :=
  ⟨_, fun cdv A outer s H E hr => pss_end (k := 2) rfl (ps_ret (pe_make T.mk_Score (ok_Score_init T) (hr.mono (by decide)) rfl T.g_Score T.b_Score_init .nil pass0 (pa_cons (show PE _ _ (tFld K _ _) from pe_fld (pv 1) rfl) (pa_cons (show PE _ _ (tFld K _ _) from pe_fld (pv 1) rfl) (pa_cons (pv 3) (pa_cons (pe_tup (pa_cons pe_int (pa_cons pe_int pa_nil))) pa_nil))))))⟩
noncomputable def t_after_game_2 (T : Tx K mg) : TS := (tmk_after_game_2 T).t
noncomputable def tmk_after_game_1 (T : Tx K mg) : Tm K mg ["rules", "score", "who", "games"] "after_game" s_after_game T.f_after_game 3 ((defBody s_after_game).drop 1) :=
  ⟨tSeq _ (t_after_game_2 T), fun cdv A outer s H E hr => pss_at (k := 1) rfl (ps_if (pt_val (pe_call (ok_has_won T) (hr.mono (by decide)) rfl T.g_has_won T.F_has_won.kp T.b_has_won .nil pass0 (pa_cons (pv 3) (pa_cons (pv 2) (pa_cons (show PE _ _ (tFld K _ _) from pe_fld (pv 0) rfl) (pa_cons (pe_glob rfl T.v_LEAD T.r_LEAD) pa_nil)))))) (pss_one (ps_ret (pe_call (ok_after_set T) (hr.mono (by decide)) rfl T.g_after_set T.F_after_set.kp T.b_after_set .nil pass0 (pa_cons (pv 1) (pa_cons (pv 3) (pa_cons pe_int pa_nil)))))) pss_nil)
    ((tmk_after_game_2 T).ok cdv A outer s H E hr)⟩
noncomputable def t_after_game_1 (T : Tx K mg) : TS := (tmk_after_game_1 T).t
noncomputable def tmk_after_game_0 (T : Tx K mg) : Tm K mg ["rules", "score", "who", "games"] "after_game" s_after_game T.f_after_game 3 ((defBody s_after_game).drop 0) :=
  ⟨tSeq _ (t_after_game_1 T), fun cdv A outer s H E hr => pss_at (k := 0) rfl (ps_set (i := 3) sc_after_game.nd rfl (Or.inl rfl) (pe_call (ok_one_more T) (hr.mono (by decide)) rfl T.g_one_more T.F_one_more.kp T.b_one_more .nil pass0 (pa_cons (show PE _ _ (tFld K _ _) from pe_fld (pv 1) rfl) (pa_cons (pv 2) pa_nil))))
    ((tmk_after_game_1 T).ok cdv A outer s H E hr)⟩
noncomputable def t_after_game_0 (T : Tx K mg) : TS := (tmk_after_game_0 T).t
theorem ok_after_game (T : Tx K mg) : FnOk P w K mg base CX0 4 T.f_after_game T.d_after_game ["rules", "score", "who"] (sp_after_game T) := by
  refine T.F_after_game.ok sc_after_game (fun vs H Q E h => ?_) (fun cdv A outer s H vs Q E hr h => ?_)
  · obtain ⟨_, _, _, _, _, rfl, _⟩ := h
    rfl
  · obtain ⟨ra, sa, r, s, x, rfl, hR, hS, hlen, k⟩ := h
    obtain ⟨td, tw, tg, tp, ts, h1, h2, h3, h4, h5⟩ := hS.ex
    refine ⟨t_after_game_0 T, (tmk_after_game_0 T).ok _ _ _ _ _ _ hr, ?_⟩
    refine ((exE rfl (h1.games (exE rfl (ex4 tg _ _ x ⟨rfl, h4, fun b H1 s1 hb => ?_⟩)))))
    refine (exE rfl (exE rfl ((exE rfl ((hR.imm s1.imm).games (ex6 b _ _ x r.games 2 ⟨rfl, hb, exE rfl ?_⟩))))))
    refine ite2 (fun c => ?_) (fun c => ?_)
    · refine (exE rfl (exE rfl (ex5 sa b s (Pd.one s.ga s.gb x) 0 ⟨rfl, hS.imm s1.imm, hb, has_ne (by decide) c, hlen, fun a H2 s2 hA => k a H2 (s1.trans s2) ?_⟩)))
      unfold Pd.aftGame
      rw [if_pos c]
      exact hA
    · refine ((exE rfl ((h1.imm s1.imm).done ((exE rfl ((h1.imm s1.imm).won (exE rfl ⟨(sz rfl), fun p3 n3 => ?_⟩)))))))
      generalize hU14 : upd _ p3 _ = H3
      obtain ⟨s3, e3⟩ := new_of n3 hU14
      refine mk_Score fun p H5 n5 s5 hP => ?_
      refine k p H5 ((s1.trans s3).trans s5) ?_
      unfold Pd.aftGame
      rw [if_neg c]
      have s15 := (s1.trans s3).trans s5
      exact ScoreAt.mk' (s := ⟨s.done, (Pd.one s.ga s.gb x).1, (Pd.one s.ga s.gb x).2, 0, 0⟩) hP (h2.imm s15.imm) (h3.imm s15.imm) (hb.imm (s3.trans s5).imm) (s5 _ _ e3)
def sp_after_point (T : Tx K mg) : Sp := fun vs H Q _ => ∃ (ra sa : Addr) (r : Rules) (s : Score) (x : Bool), vs = [.ref ra, .ref sa, .int (who x)] ∧ RulesAt T H ra r ∧ ScoreAt T H sa s ∧ s.done.length ≤ 1000 ∧
  ∀ (a : Addr) (H' : Hp), Same H H' → ScoreAt T H' a (Pd.aft r s x) → Q (.ref a) H'
noncomputable def tmk_after_point_4 (T : Tx K mg) : Tm K mg ["rules", "score", "who", "points"] "after_point" s_after_point T.f_after_point 4 ((defBody s_after_point).drop 4) :=
  ⟨_, fun cdv A outer s H E hr => pss_end (k := 4) rfl (ps_ret (pe_make T.mk_Score (ok_Score_init T) (hr.mono (by decide)) rfl T.g_Score T.b_Score_init .nil pass0 (pa_cons (show PE _ _ (tFld K _ _) from pe_fld (pv 1) rfl) (pa_cons (show PE _ _ (tFld K _ _) from pe_fld (pv 1) rfl) (pa_cons (show PE _ _ (tFld K _ _) from pe_fld (pv 1) rfl) (pa_cons (pv 3) pa_nil))))))⟩
noncomputable def t_after_point_4 (T : Tx K mg) : TS := (tmk_after_point_4 T).t
noncomputable def smk_after_point_3 (T : Tx K mg) : Sm K mg ["rules", "score", "who", "points"] "after_point" s_after_point T.f_after_point 4 ((defBody s_after_point).getD 3 (.Pass ⟨0, 0, 0, 0⟩)) :=
  ⟨_, fun cdv A outer s H E hr => ps_at (k := 3) rfl (ps_if (pt_cmpR (show OpR _ _ (rEqD K) from op_eqD hr.units) (pv 3) (pe_tup (pa_cons (pe_glob rfl T.v_GAME_POINTS T.r_GAME_POINTS) (pa_cons (pe_glob rfl T.v_GAME_POINTS T.r_GAME_POINTS) pa_nil))) (nomark _)) (pss_one (ps_set (i := 3) sc_after_point.nd rfl (Or.inl rfl) (pe_tup (pa_cons (pe_op op_sub (pe_glob rfl T.v_GAME_POINTS T.r_GAME_POINTS) pe_int) (pa_cons (pe_op op_sub (pe_glob rfl T.v_GAME_POINTS T.r_GAME_POINTS) pe_int) pa_nil))))) pss_nil)⟩
noncomputable def u_after_point_3 (T : Tx K mg) : TS := (smk_after_point_3 T).t
noncomputable def tmk_after_point_3 (T : Tx K mg) : Tm K mg ["rules", "score", "who", "points"] "after_point" s_after_point T.f_after_point 4 ((defBody s_after_point).drop 3) :=
  ⟨tSeq (u_after_point_3 T) (t_after_point_4 T), fun cdv A outer s H E hr => pss_cut (k := 3) rfl ((smk_after_point_3 T).ok cdv A outer s H E hr) ((tmk_after_point_4 T).ok cdv A outer s H E hr)⟩
noncomputable def t_after_point_3 (T : Tx K mg) : TS := (tmk_after_point_3 T).t
theorem e_after_point_3 (T : Tx K mg) : t_after_point_3 T = tSeq (u_after_point_3 T) (t_after_point_4 T) := rfl
noncomputable def tmk_after_point_2 (T : Tx K mg) : Tm K mg ["rules", "score", "who", "points"] "after_point" s_after_point T.f_after_point 4 ((defBody s_after_point).drop 2) :=
  ⟨tSeq _ (t_after_point_3 T), fun cdv A outer s H E hr => pss_at (k := 2) rfl (ps_if (pt_val (pe_call (ok_has_won T) (hr.mono (by decide)) rfl T.g_has_won T.F_has_won.kp T.b_has_won .nil pass0 (pa_cons (pv 3) (pa_cons (pv 2) (pa_cons (pe_glob rfl T.v_GAME_POINTS T.r_GAME_POINTS) (pa_cons (Pr.pe_mid (pe_ifExp (pt_cmpR op_eq (show PE _ _ (tFld K _ _) from pe_fld (pv 0) rfl) pe_int (nomark _)) pe_int (pe_glob rfl T.v_LEAD T.r_LEAD))) pa_nil)))))) (pss_one (ps_ret (pe_call (ok_after_game T) (hr.mono (by decide)) rfl T.g_after_game T.F_after_game.kp T.b_after_game .nil pass0 (pa_cons (pv 0) (pa_cons (pv 1) (pa_cons (pv 2) pa_nil)))))) pss_nil)
    ((tmk_after_point_3 T).ok cdv A outer s H E hr)⟩
noncomputable def t_after_point_2 (T : Tx K mg) : TS := (tmk_after_point_2 T).t
noncomputable def tmk_after_point_1 (T : Tx K mg) : Tm K mg ["rules", "score", "who", "points"] "after_point" s_after_point T.f_after_point 4 ((defBody s_after_point).drop 1) :=
  ⟨tSeq _ (t_after_point_2 T), fun cdv A outer s H E hr => pss_at (k := 1) rfl (ps_if (pt_val (pe_call (ok_in_tie_break T) (hr.mono (by decide)) rfl T.g_in_tie_break T.F_in_tie_break.kp T.b_in_tie_break .nil pass0 (pa_cons (pv 0) (pa_cons (pv 1) pa_nil)))) (pss_cons (ps_if (pt_val (pe_call (ok_has_won T) (hr.mono (by decide)) rfl T.g_has_won T.F_has_won.kp T.b_has_won .nil pass0 (pa_cons (pv 3) (pa_cons (pv 2) (pa_cons (pe_glob rfl T.v_TIE_BREAK_POINTS T.r_TIE_BREAK_POINTS) (pa_cons (pe_glob rfl T.v_LEAD T.r_LEAD) pa_nil)))))) (pss_one (ps_ret (pe_call (ok_after_set T) (hr.mono (by decide)) rfl T.g_after_set T.F_after_set.kp T.b_after_set .nil pass0 (pa_cons (pv 1) (pa_cons (pe_call (ok_one_more T) (hr.mono (by decide)) rfl T.g_one_more T.F_one_more.kp T.b_one_more .nil pass0 (pa_cons (show PE _ _ (tFld K _ _) from pe_fld (pv 1) rfl) (pa_cons (pv 2) pa_nil))) (pa_cons (pe_ix (show IxR _ (rIxT K) from ix_tup) (pv 3) (pe_op op_sub pe_int (pv 2)) (fun _ _ => rfl)) pa_nil)))))) pss_nil)
      (pss_one (ps_ret (pe_make T.mk_Score (ok_Score_init T) (hr.mono (by decide)) rfl T.g_Score T.b_Score_init .nil pass0 (pa_cons (show PE _ _ (tFld K _ _) from pe_fld (pv 1) rfl) (pa_cons (show PE _ _ (tFld K _ _) from pe_fld (pv 1) rfl) (pa_cons (show PE _ _ (tFld K _ _) from pe_fld (pv 1) rfl) (pa_cons (pv 3) pa_nil)))))))) pss_nil)
    ((tmk_after_point_2 T).ok cdv A outer s H E hr)⟩
noncomputable def t_after_point_1 (T : Tx K mg) : TS := (tmk_after_point_1 T).t
noncomputable def tmk_after_point_0 (T : Tx K mg) : Tm K mg ["rules", "score", "who", "points"] "after_point" s_after_point T.f_after_point 4 ((defBody s_after_point).drop 0) :=
  ⟨tSeq _ (t_after_point_1 T), fun cdv A outer s H E hr => pss_at (k := 0) rfl (ps_set (i := 3) sc_after_point.nd rfl (Or.inl rfl) (pe_call (ok_one_more T) (hr.mono (by decide)) rfl T.g_one_more T.F_one_more.kp T.b_one_more .nil pass0 (pa_cons (show PE _ _ (tFld K _ _) from pe_fld (pv 1) rfl) (pa_cons (pv 2) pa_nil))))
    ((tmk_after_point_1 T).ok cdv A outer s H E hr)⟩
noncomputable def t_after_point_0 (T : Tx K mg) : TS := (tmk_after_point_0 T).t
theorem ok_after_point (T : Tx K mg) : FnOk P w K mg base CX0 5 T.f_after_point T.d_after_point ["rules", "score", "who"] (sp_after_point T) := by
  refine T.F_after_point.ok sc_after_point (fun vs H Q E h => ?_) (fun cdv A outer s H vs Q E hr h => ?_)
  · obtain ⟨_, _, _, _, _, rfl, _⟩ := h
    rfl
  · obtain ⟨ra, sa, r, s, x, rfl, hR, hS, hlen, k⟩ := h
    obtain ⟨td, tw, tg, tp, ts, h1, h2, h3, h4, h5⟩ := hS.ex
    refine ⟨t_after_point_0 T, (tmk_after_point_0 T).ok _ _ _ _ _ _ hr, ?_⟩
    refine ((exE rfl (h1.points (exE rfl (ex4 tp _ _ x ⟨rfl, h5, fun b H1 s1 hb => ?_⟩)))))
    -- the score with other points
    have stay : ∀ (b' : Addr) (H2 : Hp) (p q : Nat), Same H H2 → T2 H2 b' p q → ∀ (a : Addr) (H5 : Hp), H2 a = none → Same H2 H5 → PartsAt T H5 a (.ref td) (.ref tw) (.ref tg) (.ref b') → ScoreAt T H5 a ⟨s.done, s.ga, s.gb, p, q⟩ :=
      fun b' H2 p q s2 hb' a H5 n5 s5 hP => by
        have s25 := s2.trans s5
        exact ScoreAt.mk' (s := ⟨s.done, s.ga, s.gb, p, q⟩) hP (h2.imm s25.imm) (h3.imm s25.imm) (h4.imm s25.imm) (hb'.imm s5.imm)
    refine (exE rfl (exE rfl (ex4 ra sa r s ⟨rfl, hR.imm s1.imm, hS.imm s1.imm, fun H2 s2 => (exE rfl ?_)⟩)))
    have s12 := s1.trans s2
    refine ite2 (fun ct => ?_) (fun ct => ?_)
    · refine (exE rfl (exE rfl (ex6 b _ _ x 7 2 ⟨rfl, hb.imm s2.imm, exE rfl ?_⟩)))
      refine ite2 (fun c => ?_) (fun c => ?_)
      · have hb2 : H2 b = some (.tup [.int (Pd.one s.pa s.pb x).1, .int (Pd.one s.pa s.pb x).2]) := hb.imm s2.imm
        have ht := Pd.tie_t.mp ct
        refine (exE rfl ((exE rfl ((h1.imm s12.imm).games (exE rfl (ex4 tg _ _ x ⟨rfl, h4.imm s12.imm, fun g H3 s3 hg => ?_⟩))))))
        have hb3 := s3 _ _ hb2
        have z : atI [V.int (Pd.one s.pa s.pb x).1, V.int (Pd.one s.pa s.pb x).2] (1 - who x) = some (.int ((if x then (Pd.one s.pa s.pb x).2 else (Pd.one s.pa s.pb x).1 : Nat) : Int)) := by
          cases x
          · exact at_of (j := 0) rfl rfl
          · exact at_of (j := 1) rfl rfl
        refine (exE rfl (exE rfl (ii2 (ixv (SqT.of hb3) z (ex5 sa g s (Pd.one s.ga s.gb x) _ ⟨rfl, hS.imm (s12.trans s3).imm, hg, ?_, hlen, fun a H4 s4 hA => k a H4 ((s12.trans s3).trans s4) ?_⟩)))))
        · rw [ht.1, ht.2.1]
          cases x <;> simp [Pd.one]
        · unfold Pd.aft
          rw [if_pos ct, if_pos c]
          exact hA
      · refine ((exE rfl ((h1.imm s12.imm).done ((exE rfl ((h1.imm s12.imm).won ((exE rfl ((h1.imm s12.imm).games (exE rfl (mk_Score fun a H5 n5 s5 hP => k a H5 (s12.trans s5) ?_)))))))))))
        unfold Pd.aft
        rw [if_pos ct, if_neg c]
        exact stay b H2 _ _ s12 (hb.imm s2.imm) a H5 n5 s5 hP
    · refine (exE rfl (exE rfl ⟨fun v H' => v = .int ((if r.short = true then 1 else 2 : Nat) : Int) ∧ H' = H2, ((exE rfl ((hR.imm s12.imm).short ⟨rfl, exE rfl ?_⟩))), ?_⟩))
      · rw [b01_is]
        cases r.short
        · exact iteF ⟨rfl, rfl⟩
        · exact iteT ⟨rfl, rfl⟩
      rintro v H' ⟨rfl, rfl⟩
      refine (ex6 b _ _ x 4 _ ⟨rfl, hb.imm s2.imm, exE rfl ?_⟩)
      refine ite2 (fun c => ?_) (fun c => ?_)
      · refine (exE rfl (exE rfl (exE rfl (ex5 ra sa r s x ⟨rfl, hR.imm s12.imm, hS.imm s12.imm, hlen, fun a H3 s3 hA => k a H3 (s12.trans s3) ?_⟩))))
        unfold Pd.aft
        rw [if_neg ct, if_pos c]
        exact hA
      · unfold tNext
        dsimp only
        refine seq_by (e_after_point_3 T) (fun σ' H' => ∃ b' p q, σ' = [some (.ref ra), some (.ref sa), some (.int (who x)), some (.ref b')] ∧ Same H H' ∧ T2 H' b' p q ∧ Pd.aft r s x = ⟨s.done, s.ga, s.gb, p, q⟩) ?_ (fun rest => ?_)
        · rintro σ' H3 ⟨b', p, q, rfl, s3, hb', e⟩
          refine ((exE rfl ((h1.imm s3.imm).done ((exE rfl ((h1.imm s3.imm).won ((exE rfl ((h1.imm s3.imm).games (exE rfl (mk_Score fun a H5 n5 s5 hP => k a H5 (s3.trans s5) ?_)))))))))))
          rw [e]
          exact stay b' H3 _ _ s3 hb' a H5 n5 s5 hP
        · refine (exE rfl ⟨(sz rfl), fun p3 n3 => ?_⟩)
          generalize hU15 : upd _ p3 _ = H3
          obtain ⟨s3, e3⟩ := new_of n3 hU15
          refine eq_pair ((s2.trans s3) _ _ hb) e3 (exE rfl ?_)
          refine ite2 (fun c4 => ?_) (fun c4 => ?_)
          · refine (ii2 (ii2 ⟨(sz rfl), fun p4 n4 => ?_⟩))
            generalize hU16 : upd _ p4 _ = H4
            obtain ⟨s4, e4⟩ := new_of n4 hU16
            refine rest _ H4 (ex3 p4 3 3 ⟨rfl, (s12.trans s3).trans s4, e4, ?_⟩)
            unfold Pd.aft
            rw [if_neg ct, if_neg c, if_pos (by simp at c4; omega)]
          · refine rest _ H3 (ex3 b _ _ ⟨rfl, s12.trans s3, hb.imm (s2.trans s3).imm, ?_⟩)
            unfold Pd.aft
            rw [if_neg ct, if_neg c, if_neg (by simp at c4; omega)]
end
end Pt

end
section
set_option Elab.async false
set_option linter.all false
set_option maxRecDepth 100000
set_option maxHeartbeats 2000000
namespace Pt
open PySem PySem.Spec PyProof.Rows L2
open Ks301 (Rules Score)
def nv (ns : List Nat) : List V := ns.map fun (n : Nat) => V.int (n : Int)
theorem nv_get {ns : List Nat} {i x : Nat} (h : ns[i]? = some x) : (nv ns)[i]? = some (.int (x : Int)) := by
  unfold nv
  rw [List.getElem?_map, h]
  rfl
theorem max_nat (a b : Nat) : (if (b : Int) > (a : Int) then (b : Int) else (a : Int)) = ((max a b : Nat) : Int) := by
  split <;> omega
theorem min_nat (a b : Nat) : (if (b : Int) < (a : Int) then (b : Int) else (a : Int)) = ((min a b : Nat) : Int) := by
  split <;> omega
section
variable {P : Program} {w : World} {K : PySem.W.Frag} {mg : Str → Option Value} {base : Heap}
def sp_set_can_end (T : Tx K mg) : Sp := fun vs H Q _ => ∃ (ra sa ga : Addr) (r : Rules) (s : Score) (a b t : Nat), vs = [.ref ra, .ref sa, .ref ga, .int t] ∧ RulesAt T H ra r ∧ ScoreAt T H sa s ∧ T2 H ga a b ∧ ∀ H', Same H H' → Q (.bl (Ks301.okSet r s.done (a, b, t))) H'
noncomputable def tmk_set_can_end_6 (T : Tx K mg) : Tm K mg ["rules", "score", "games", "loser_points", "high", "low", "endless"] "set_can_end" s_set_can_end T.f_set_can_end 1 ((defBody s_set_can_end).drop 6) :=
  ⟨_, fun cdv A outer s H E hr => pss_end (k := 6) rfl (ps_ret (pe_and (pe_cmpR op_eq (pe_op op_sub (pv 4) (pv 5)) (pe_glob rfl T.v_LEAD T.r_LEAD) (nomark _)) (pe_and (pe_cmpR op_gt (pv 4) (show PE _ _ (tFld K _ _) from pe_fld (pv 0) rfl) (nomark _)) (pe_one (pe_or (pv 6) (pe_one (pe_cmpR op_eq (pv 4) (pe_op op_add (show PE _ _ (tFld K _ _) from pe_fld (pv 0) rfl) pe_int) (nomark _))))))))⟩
noncomputable def t_set_can_end_6 (T : Tx K mg) : TS := (tmk_set_can_end_6 T).t
noncomputable def tmk_set_can_end_5 (T : Tx K mg) : Tm K mg ["rules", "score", "games", "loser_points", "high", "low", "endless"] "set_can_end" s_set_can_end T.f_set_can_end 1 ((defBody s_set_can_end).drop 5) :=
  ⟨tSeq _ (t_set_can_end_6 T), fun cdv A outer s H E hr => pss_at (k := 5) rfl (ps_if (pt_cmpR op_eq (pv 4) (show PE _ _ (tFld K _ _) from pe_fld (pv 0) rfl) (nomark _)) (pss_one (ps_ret (pe_cmpR op_ge (pe_op op_sub (pv 4) (pv 5)) (pe_glob rfl T.v_LEAD T.r_LEAD) (nomark _)))) pss_nil)
    ((tmk_set_can_end_6 T).ok cdv A outer s H E hr)⟩
noncomputable def t_set_can_end_5 (T : Tx K mg) : TS := (tmk_set_can_end_5 T).t
noncomputable def tmk_set_can_end_4 (T : Tx K mg) : Tm K mg ["rules", "score", "games", "loser_points", "high", "low", "endless"] "set_can_end" s_set_can_end T.f_set_can_end 1 ((defBody s_set_can_end).drop 4) :=
  ⟨tSeq _ (t_set_can_end_5 T), fun cdv A outer s H E hr => pss_at (k := 4) rfl (ps_if (pt_cmpR op_ne (pv 3) pe_int (nomark _)) (pss_one (ps_ret pe_bl)) pss_nil)
    ((tmk_set_can_end_5 T).ok cdv A outer s H E hr)⟩
noncomputable def t_set_can_end_4 (T : Tx K mg) : TS := (tmk_set_can_end_4 T).t
noncomputable def smk_set_can_end_3 (T : Tx K mg) : Sm K mg ["rules", "score", "games", "loser_points", "high", "low", "endless"] "set_can_end" s_set_can_end T.f_set_can_end 1 ((defBody s_set_can_end).getD 3 (.Pass ⟨0, 0, 0, 0⟩)) :=
  ⟨_, fun cdv A outer s H E hr => ps_at (k := 3) rfl (ps_if (PW.pt (pw_and (pt_cmpR op_eq (pv 4) (pe_op op_add (show PE _ _ (tFld K _ _) from pe_fld (pv 0) rfl) pe_int) (nomark _)) (pw_and (pt_cmpR op_eq (pv 5) (show PE _ _ (tFld K _ _) from pe_fld (pv 0) rfl) (nomark _)) (pw_and1 (pt_not (pt_val (pv 6))))))) (pss_one (ps_ret pe_bl)) pss_nil)⟩
noncomputable def u_set_can_end_3 (T : Tx K mg) : TS := (smk_set_can_end_3 T).t
noncomputable def tmk_set_can_end_3 (T : Tx K mg) : Tm K mg ["rules", "score", "games", "loser_points", "high", "low", "endless"] "set_can_end" s_set_can_end T.f_set_can_end 1 ((defBody s_set_can_end).drop 3) :=
  ⟨tSeq (u_set_can_end_3 T) (t_set_can_end_4 T), fun cdv A outer s H E hr => pss_cut (k := 3) rfl ((smk_set_can_end_3 T).ok cdv A outer s H E hr) ((tmk_set_can_end_4 T).ok cdv A outer s H E hr)⟩
noncomputable def t_set_can_end_3 (T : Tx K mg) : TS := (tmk_set_can_end_3 T).t
theorem e_set_can_end_3 (T : Tx K mg) : t_set_can_end_3 T = tSeq (u_set_can_end_3 T) (t_set_can_end_4 T) := rfl
noncomputable def tmk_set_can_end_2 (T : Tx K mg) : Tm K mg ["rules", "score", "games", "loser_points", "high", "low", "endless"] "set_can_end" s_set_can_end T.f_set_can_end 1 ((defBody s_set_can_end).drop 2) :=
  ⟨tSeq _ (t_set_can_end_3 T), fun cdv A outer s H E hr => pss_at (k := 2) rfl (ps_set (i := 6) sc_set_can_end.nd rfl (Or.inl rfl) (pe_call (ok_goes_on_without_tie_break T) (hr.mono (by decide)) rfl T.g_goes_on_without_tie_break T.F_goes_on_without_tie_break.kp T.b_goes_on_without_tie_break .nil pass0 (pa_cons (pv 0) (pa_cons (pv 1) pa_nil))))
    ((tmk_set_can_end_3 T).ok cdv A outer s H E hr)⟩
noncomputable def t_set_can_end_2 (T : Tx K mg) : TS := (tmk_set_can_end_2 T).t
noncomputable def tmk_set_can_end_1 (T : Tx K mg) : Tm K mg ["rules", "score", "games", "loser_points", "high", "low", "endless"] "set_can_end" s_set_can_end T.f_set_can_end 1 ((defBody s_set_can_end).drop 1) :=
  ⟨tSeq _ (t_set_can_end_2 T), fun cdv A outer s H E hr => pss_at (k := 1) rfl (ps_set (i := 5) sc_set_can_end.nd rfl (Or.inl rfl) (pe_callB (show CallR _ _ (Pr.rPair K _) from Pr.cr_minT rfl) (by rfl) T.z_min bt_min (pa_cons (pv 2) pa_nil)))
    ((tmk_set_can_end_2 T).ok cdv A outer s H E hr)⟩
noncomputable def t_set_can_end_1 (T : Tx K mg) : TS := (tmk_set_can_end_1 T).t
noncomputable def tmk_set_can_end_0 (T : Tx K mg) : Tm K mg ["rules", "score", "games", "loser_points", "high", "low", "endless"] "set_can_end" s_set_can_end T.f_set_can_end 1 ((defBody s_set_can_end).drop 0) :=
  ⟨tSeq _ (t_set_can_end_1 T), fun cdv A outer s H E hr => pss_at (k := 0) rfl (ps_set (i := 4) sc_set_can_end.nd rfl (Or.inl rfl) (pe_callB (show CallR _ _ (Pr.rPair K _) from Pr.cr_maxT rfl) (by rfl) T.z_max bt_max (pa_cons (pv 2) pa_nil)))
    ((tmk_set_can_end_1 T).ok cdv A outer s H E hr)⟩
noncomputable def t_set_can_end_0 (T : Tx K mg) : TS := (tmk_set_can_end_0 T).t
theorem ok_set_can_end (T : Tx K mg) : FnOk P w K mg base CX0 2 T.f_set_can_end T.d_set_can_end ["rules", "score", "games", "loser_points"] (sp_set_can_end T) := by
  refine T.F_set_can_end.ok sc_set_can_end (fun vs H Q E h => ?_) (fun cdv A outer s H vs Q E hr h => ?_)
  · obtain ⟨_, _, _, _, _, _, _, _, rfl, _⟩ := h
    rfl
  · obtain ⟨ra, sa, ga, r, s, a, b, t, rfl, hR, hS, hG, k⟩ := h
    have hG' : H ga = some (.tup [.int a, .int b]) := hG
    refine ⟨t_set_can_end_0 T, (tmk_set_can_end_0 T).ok _ _ _ _ _ _ hr, ?_⟩
    refine (exE rfl (ex4 ga _ _ _ ⟨rfl, SqT.of hG', (max_nat a b).symm, ?_⟩))
    refine (exE rfl (ex4 ga _ _ _ ⟨rfl, SqT.of hG', (min_nat a b).symm, ?_⟩))
    refine (exE rfl (exE rfl (ex4 ra sa r s ⟨rfl, hR, hS, fun H1 s1 => ?_⟩)))
    have R1 := hR.imm s1.imm
    have fin : ∀ c : Bool, c = Pd.cSet r (Ks301.isLong r s.done) a b t → Q (.bl c) H1 := fun c e => by
      rw [e, Pd.cSet_eq]
      exact k _ s1
    have hmm : min a b ≤ max a b := by omega
    unfold Pd.cSet at fin
    generalize max a b = hi at *
    generalize min a b = lo at *
    generalize Ks301.isLong r s.done = lng at *
    -- the tests one behind another
    dsimp only [gName]
    refine seq_by (e_set_can_end_3 T) (fun σ' H' => H' = H1 ∧ σ' = [some (.ref ra), some (.ref sa), some (.ref ga), some (.int t), some (.int hi), some (.int lo), some (.bl lng)] ∧ ¬ ((hi = r.games + 1 ∧ lo = r.games) ∧ lng = false)) ?_ (fun rest => ?_)
    · rintro σ' H' ⟨rfl, rfl, c0⟩
      rw [if_neg c0] at fin
      refine (exE rfl ⟨rfl, exE rfl ?_⟩)
      refine ite2 (fun c1 => ?_) (fun c1 => ?_)
      · exact fin _ (by rw [if_pos (by simpa using c1)])
      · rw [if_neg (by simpa using c1)] at fin
        refine (exE rfl ((exE rfl (R1.games ⟨rfl, exE rfl ?_⟩))))
        refine ite2 (fun c2 => ?_) (fun c2 => ?_)
        · refine (exE rfl (exE rfl (ii2 (ii2 (fin _ ?_)))))
          rw [if_pos (by simp at c2; omega), Bool.eq_iff_iff]
          simp
          omega
        · rw [if_neg (by simp at c2; omega)] at fin
          refine (exE rfl (exE rfl (ii2 ⟨rfl, exE rfl ?_⟩)))
          refine ite2 (fun c3 => ?_) (fun c3 => ?_)
          · refine (exE rfl ((exE rfl (R1.games (ii2 (exE rfl ?_))))))
            refine ite2 (fun c4 => ?_) (fun c4 => ?_)
            · refine (exE rfl (exE rfl ?_))
              refine ite2 (fun c5 => ?_) (fun c5 => ?_)
              · refine fin _ ?_
                simp at c3 c4
                rw [c5]
                simp
                omega
              · refine (exE rfl ((exE rfl (R1.games (ii2 ⟨rfl, fin _ ?_⟩)))))
                simp at c3 c4 c5
                rw [c5]
                rw [Bool.eq_iff_iff]
                simp
                omega
            · refine fin _ ?_
              simp at c3 c4
              rw [eq_comm, ← Bool.not_eq_true]
              simp
              omega
          · refine fin _ ?_
            simp at c3
            rw [eq_comm, ← Bool.not_eq_true]
            simp
            omega
    · have yes : ((hi = r.games + 1 ∧ lo = r.games) ∧ lng = false) → Q (.bl true) H1 := fun c => fin _ (by rw [if_pos c])
      refine (exE rfl ((exE rfl (R1.games (ii2 ⟨rfl, exE rfl ?_⟩)))))
      refine ite2 (fun c => ?_) (fun c => ?_)
      · refine (exE rfl ((exE rfl (R1.games ⟨rfl, exE rfl ?_⟩))))
        refine ite2 (fun c' => ?_) (fun c' => ?_)
        · refine (exE rfl (exE rfl ?_))
          refine ite2 (fun c'' => ?_) (fun c'' => ?_)
          · refine yes ?_
            simp at c c' c''
            exact ⟨⟨by omega, by omega⟩, c''⟩
          · refine rest _ _ ⟨rfl, rfl, fun z => ?_⟩
            simp [z.2] at c''
        · refine iteF (rest _ _ ⟨rfl, rfl, fun z => ?_⟩)
          simp at c'
          omega
      · refine iteF (rest _ _ ⟨rfl, rfl, fun z => ?_⟩)
        simp at c
        omega
def sp_games_can_be (T : Tx K mg) : Sp := fun vs H Q _ => ∃ (ra sa : Addr) (r : Rules) (s : Score) (a b : Nat), vs = [.ref ra, .ref sa, .int a, .int b] ∧ RulesAt T H ra r ∧ ScoreAt T H sa s ∧ ∀ H', Same H H' → Q (.bl (Ks301.okGames r s.done a b)) H'
theorem abs_near (a b : Nat) : decide ((if (a : Int) - (b : Int) < 0 then -((a : Int) - (b : Int)) else (a : Int) - (b : Int)) < 2) = decide (a < b + 2 ∧ b < a + 2) := by
  rw [Bool.eq_iff_iff]
  simp only [decide_eq_true_eq]
  split <;> omega
noncomputable def tmk_games_can_be_3 (T : Tx K mg) : Tm K mg ["rules", "score", "first", "other", "high", "close"] "games_can_be" s_games_can_be T.f_games_can_be 1 ((defBody s_games_can_be).drop 3) :=
  ⟨_, fun cdv A outer s H E hr => pss_end (k := 3) rfl (ps_ret (pe_and (pv 5) (pe_one (pe_or (pe_cmpR op_eq (pv 4) (show PE _ _ (tFld K _ _) from pe_fld (pv 0) rfl) (nomark _)) (pe_one (pe_call (ok_goes_on_without_tie_break T) (hr.mono (by decide)) rfl T.g_goes_on_without_tie_break T.F_goes_on_without_tie_break.kp T.b_goes_on_without_tie_break .nil pass0 (pa_cons (pv 0) (pa_cons (pv 1) pa_nil))))))))⟩
noncomputable def t_games_can_be_3 (T : Tx K mg) : TS := (tmk_games_can_be_3 T).t
noncomputable def tmk_games_can_be_2 (T : Tx K mg) : Tm K mg ["rules", "score", "first", "other", "high", "close"] "games_can_be" s_games_can_be T.f_games_can_be 1 ((defBody s_games_can_be).drop 2) :=
  ⟨tSeq _ (t_games_can_be_3 T), fun cdv A outer s H E hr => pss_at (k := 2) rfl (ps_set (i := 5) sc_games_can_be.nd rfl (Or.inl rfl) (pe_cmpR op_lt (pe_callB call_abs (by rfl) T.z_abs bt_abs (pa_cons (pe_op op_sub (pv 2) (pv 3)) pa_nil)) (pe_glob rfl T.v_LEAD T.r_LEAD) (nomark _)))
    ((tmk_games_can_be_3 T).ok cdv A outer s H E hr)⟩
noncomputable def t_games_can_be_2 (T : Tx K mg) : TS := (tmk_games_can_be_2 T).t
noncomputable def tmk_games_can_be_1 (T : Tx K mg) : Tm K mg ["rules", "score", "first", "other", "high", "close"] "games_can_be" s_games_can_be T.f_games_can_be 1 ((defBody s_games_can_be).drop 1) :=
  ⟨tSeq _ (t_games_can_be_2 T), fun cdv A outer s H E hr => pss_at (k := 1) rfl (ps_if (pt_cmpR op_lt (pv 4) (show PE _ _ (tFld K _ _) from pe_fld (pv 0) rfl) (nomark _)) (pss_one (ps_ret pe_bl)) pss_nil)
    ((tmk_games_can_be_2 T).ok cdv A outer s H E hr)⟩
noncomputable def t_games_can_be_1 (T : Tx K mg) : TS := (tmk_games_can_be_1 T).t
noncomputable def tmk_games_can_be_0 (T : Tx K mg) : Tm K mg ["rules", "score", "first", "other", "high", "close"] "games_can_be" s_games_can_be T.f_games_can_be 1 ((defBody s_games_can_be).drop 0) :=
  ⟨tSeq _ (t_games_can_be_1 T), fun cdv A outer s H E hr => pss_at (k := 0) rfl (ps_set (i := 4) sc_games_can_be.nd rfl (Or.inl rfl) (pe_callB (call_max2 rfl) (by rfl) T.z_max bt_max (pa_cons (pv 2) (pa_cons (pv 3) pa_nil))))
    ((tmk_games_can_be_1 T).ok cdv A outer s H E hr)⟩
noncomputable def t_games_can_be_0 (T : Tx K mg) : TS := (tmk_games_can_be_0 T).t
theorem ok_games_can_be (T : Tx K mg) : FnOk P w K mg base CX0 2 T.f_games_can_be T.d_games_can_be ["rules", "score", "first", "other"] (sp_games_can_be T) := by
  refine T.F_games_can_be.ok sc_games_can_be (fun vs H Q E h => ?_) (fun cdv A outer s H vs Q E hr h => ?_)
  · obtain ⟨_, _, _, _, _, _, rfl, _⟩ := h
    rfl
  · obtain ⟨ra, sa, r, s, a, b, rfl, hR, hS, k⟩ := h
    refine ⟨t_games_can_be_0 T, (tmk_games_can_be_0 T).ok _ _ _ _ _ _ hr, ?_⟩
    refine (exE rfl (exE rfl (ex2 _ _ ⟨rfl, ?_⟩)))
    rw [max_nat]
    have fin : ∀ (c : Bool) (H1 : Hp), Same H H1 → c = Pd.cGames r (Ks301.isLong r s.done) a b → Q (.bl c) H1 := fun c H1 s1 e => by
      rw [e, Pd.cGames_eq]
      exact k _ s1
    unfold Pd.cGames at fin
    refine (exE rfl ((exE rfl (hR.games (ii2 (exE rfl ?_))))))
    refine ite2 (fun c => ?_) (fun c => ?_)
    · exact fin _ H (Same.refl _) (by rw [if_pos (by simp at c; omega)])
    · have fin2 : ∀ (c : Bool) (H1 : Hp), Same H H1 → c = (decide (a < b + 2 ∧ b < a + 2) && (decide (max a b = r.games) || Ks301.isLong r s.done)) → Q (.bl c) H1 := fun d H1 s1 e => fin d H1 s1 (by rw [if_neg (by simp at c; omega)]; exact e)
      refine (exE rfl (exE rfl (ii2 (exE rfl (ii2 ?_)))))
      dsimp only
      rw [abs_near]
      refine (exE rfl (exE rfl ?_))
      refine ite2 (fun c1 => ?_) (fun c1 => ?_)
      · refine (exE rfl ((exE rfl (hR.games ⟨rfl, exE rfl ?_⟩))))
        refine ite2 (fun c2 => ?_) (fun c2 => ?_)
        · refine fin2 _ H (Same.refl _) ?_
          rw [int_is] at c2
          rw [c1, c2]
          rfl
        · refine (exE rfl (exE rfl (ex4 ra sa r s ⟨rfl, hR, hS, fun H1 s1 => fin2 _ H1 s1 ?_⟩)))
          rw [int_is, Bool.not_eq_true] at c2
          rw [c1, c2]
          rfl
      · refine fin2 _ H (Same.refl _) ?_
        rw [Bool.not_eq_true] at c1
        rw [c1]
        rfl
def sp_points_can_be (T : Tx K mg) : Sp := fun vs H Q _ => ∃ (ra sa : Addr) (r : Rules) (s : Score), vs = [.ref ra, .ref sa] ∧ RulesAt T H ra r ∧ ScoreAt T H sa s ∧ ∀ H', Same H H' → Q (.bl (Ks301.okPoints r s)) H'
noncomputable def tmk_points_can_be_4 (T : Tx K mg) : Tm K mg ["rules", "score", "high", "low"] "points_can_be" s_points_can_be T.f_points_can_be 2 ((defBody s_points_can_be).drop 4) :=
  ⟨_, fun cdv A outer s H E hr => pss_end (k := 4) rfl (ps_ret (pe_and (pe_cmpR op_eq (show PE _ _ (tFld K _ _) from pe_fld (pv 0) rfl) pe_int (nomark _)) (pe_and (pe_cmpR op_eq (pv 2) (pe_glob rfl T.v_GAME_POINTS T.r_GAME_POINTS) (nomark _)) (pe_one (pe_cmpR op_eq (pv 3) (pe_op op_sub (pe_glob rfl T.v_GAME_POINTS T.r_GAME_POINTS) pe_int) (nomark _))))))⟩
noncomputable def t_points_can_be_4 (T : Tx K mg) : TS := (tmk_points_can_be_4 T).t
noncomputable def tmk_points_can_be_3 (T : Tx K mg) : Tm K mg ["rules", "score", "high", "low"] "points_can_be" s_points_can_be T.f_points_can_be 2 ((defBody s_points_can_be).drop 3) :=
  ⟨tSeq _ (t_points_can_be_4 T), fun cdv A outer s H E hr => pss_at (k := 3) rfl (ps_if (pt_cmpR op_lt (pv 2) (pe_glob rfl T.v_GAME_POINTS T.r_GAME_POINTS) (nomark _)) (pss_one (ps_ret pe_bl)) pss_nil)
    ((tmk_points_can_be_4 T).ok cdv A outer s H E hr)⟩
noncomputable def t_points_can_be_3 (T : Tx K mg) : TS := (tmk_points_can_be_3 T).t
noncomputable def tmk_points_can_be_2 (T : Tx K mg) : Tm K mg ["rules", "score", "high", "low"] "points_can_be" s_points_can_be T.f_points_can_be 2 ((defBody s_points_can_be).drop 2) :=
  ⟨tSeq _ (t_points_can_be_3 T), fun cdv A outer s H E hr => pss_at (k := 2) rfl (ps_if (pt_val (pe_call (ok_in_tie_break T) (hr.mono (by decide)) rfl T.g_in_tie_break T.F_in_tie_break.kp T.b_in_tie_break .nil pass0 (pa_cons (pv 0) (pa_cons (pv 1) pa_nil)))) (pss_one (ps_ret (pe_or (pe_cmpR op_lt (pv 2) (pe_glob rfl T.v_TIE_BREAK_POINTS T.r_TIE_BREAK_POINTS) (nomark _)) (pe_one (pe_cmpR op_lt (pe_op op_sub (pv 2) (pv 3)) (pe_glob rfl T.v_LEAD T.r_LEAD) (nomark _)))))) pss_nil)
    ((tmk_points_can_be_3 T).ok cdv A outer s H E hr)⟩
noncomputable def t_points_can_be_2 (T : Tx K mg) : TS := (tmk_points_can_be_2 T).t
noncomputable def tmk_points_can_be_1 (T : Tx K mg) : Tm K mg ["rules", "score", "high", "low"] "points_can_be" s_points_can_be T.f_points_can_be 2 ((defBody s_points_can_be).drop 1) :=
  ⟨tSeq _ (t_points_can_be_2 T), fun cdv A outer s H E hr => pss_at (k := 1) rfl (ps_set (i := 3) sc_points_can_be.nd rfl (Or.inl rfl) (pe_callB (show CallR _ _ (Pr.rPair K _) from Pr.cr_minT rfl) (by rfl) T.z_min bt_min (pa_cons (show PE _ _ (tFld K _ _) from pe_fld (pv 1) rfl) pa_nil)))
    ((tmk_points_can_be_2 T).ok cdv A outer s H E hr)⟩
noncomputable def t_points_can_be_1 (T : Tx K mg) : TS := (tmk_points_can_be_1 T).t
noncomputable def tmk_points_can_be_0 (T : Tx K mg) : Tm K mg ["rules", "score", "high", "low"] "points_can_be" s_points_can_be T.f_points_can_be 2 ((defBody s_points_can_be).drop 0) :=
  ⟨tSeq _ (t_points_can_be_1 T), fun cdv A outer s H E hr => pss_at (k := 0) rfl (ps_set (i := 2) sc_points_can_be.nd rfl (Or.inl rfl) (pe_callB (show CallR _ _ (Pr.rPair K _) from Pr.cr_maxT rfl) (by rfl) T.z_max bt_max (pa_cons (show PE _ _ (tFld K _ _) from pe_fld (pv 1) rfl) pa_nil)))
    ((tmk_points_can_be_1 T).ok cdv A outer s H E hr)⟩
noncomputable def t_points_can_be_0 (T : Tx K mg) : TS := (tmk_points_can_be_0 T).t
theorem ok_points_can_be (T : Tx K mg) : FnOk P w K mg base CX0 3 T.f_points_can_be T.d_points_can_be ["rules", "score"] (sp_points_can_be T) := by
  refine T.F_points_can_be.ok sc_points_can_be (fun vs H Q E h => ?_) (fun cdv A outer s H vs Q E hr h => ?_)
  · obtain ⟨_, _, _, _, rfl, _⟩ := h
    rfl
  · obtain ⟨ra, sa, r, s, rfl, hR, hS, k⟩ := h
    obtain ⟨td, tw, tg, tp, ts, h1, h2, h3, h4, h5⟩ := hS.ex
    refine ⟨t_points_can_be_0 T, (tmk_points_can_be_0 T).ok _ _ _ _ _ _ hr, ?_⟩
    refine (exE rfl (h1.points (ex4 tp _ _ _ ⟨rfl, SqT.of h5, (max_nat s.pa s.pb).symm, ?_⟩)))
    refine (exE rfl (h1.points (ex4 tp _ _ _ ⟨rfl, SqT.of h5, (min_nat s.pa s.pb).symm, ?_⟩)))
    refine (exE rfl (exE rfl (ex4 ra sa r s ⟨rfl, hR, hS, fun H1 s1 => (exE rfl ?_)⟩)))
    have R1 := hR.imm s1.imm
    have fin : ∀ c : Bool, c = Pd.cPoints r (Ks301.tie r s) s.pa s.pb → Q (.bl c) H1 := fun c e => by
      rw [e, Pd.cPoints_eq]
      exact k _ s1
    unfold Pd.cPoints at fin
    have hmm : min s.pa s.pb ≤ max s.pa s.pb := by omega
    generalize max s.pa s.pb = hi at *
    generalize min s.pa s.pb = lo at *
    refine ite2 (fun c => ?_) (fun c => ?_)
    · rw [if_pos c] at fin
      refine (exE rfl (ii2 (exE rfl ?_)))
      refine ite2 (fun c1 => ?_) (fun c1 => ?_)
      · refine fin _ ?_
        simp at c1
        rw [eq_comm]
        simp
        omega
      · refine (exE rfl (exE rfl (ii2 (ii2 (fin _ ?_)))))
        simp at c1
        rw [Bool.eq_iff_iff]
        simp
        omega
    · rw [if_neg c] at fin
      refine (exE rfl (ii2 (exE rfl ?_)))
      refine ite2 (fun c1 => ?_) (fun c1 => ?_)
      · exact fin _ (by rw [if_pos (by simp at c1; omega)])
      · rw [if_neg (by simp at c1; omega)] at fin
        refine ((exE rfl (R1.short ⟨rfl, exE rfl ?_⟩)))
        rw [b01_no]
        refine ite2 (fun c2 => ?_) (fun c2 => ?_)
        · refine (exE rfl ⟨rfl, exE rfl ?_⟩)
          refine ite2 (fun c3 => ?_) (fun c3 => ?_)
          · refine (exE rfl (ii2 ⟨rfl, fin _ ?_⟩))
            rw [c2]
            simp at c3
            rw [Bool.eq_iff_iff]
            simp
            omega
          · refine fin _ ?_
            simp at c3
            rw [eq_comm, ← Bool.not_eq_true]
            simp
            omega
        · refine fin _ ?_
          rw [Bool.not_eq_true] at c2
          rw [c2]
          rfl
theorem rg3 : ∀ n : Nat, n ≤ 5 → RgC 0 ((3 * n : Nat) : Int) 3 n
  | 0, _ => ⟨by decide, by decide, by decide +kernel, by decide +kernel⟩
  | 1, _ => ⟨by decide, by decide, by decide +kernel, by decide +kernel⟩
  | 2, _ => ⟨by decide, by decide, by decide +kernel, by decide +kernel⟩
  | 3, _ => ⟨by decide, by decide, by decide +kernel, by decide +kernel⟩
  | 4, _ => ⟨by decide, by decide, by decide +kernel, by decide +kernel⟩
  | 5, _ => ⟨by decide, by decide, by decide +kernel, by decide +kernel⟩
  | n + 6, h => by omega
def sp_score_of_sets (T : Tx K mg) : Sp := fun vs H Q _ => ∃ (ra da : Addr) (r : Rules) (ns : List Nat) (n : Nat), vs = [.ref ra, .ref da] ∧ RulesAt T H ra r ∧ H da = some (.lst (nv ns)) ∧ ns.length = 3 * n ∧ n ≤ 5 ∧
  (∀ H', Same H H' → Ks301.okSets r [] (Ks303Neutral.triples ns) = false → Q .non H') ∧
  (∀ (a : Addr) (H' : Hp), Same H H' → Ks301.okSets r [] (Ks303Neutral.triples ns) = true → ScoreAt T H' a ⟨Ks303Neutral.triples ns, 0, 0, 0, 0⟩ → Q (.ref a) H')
noncomputable def tmk_score_of_sets_2 (T : Tx K mg) : Tm K mg ["rules", "done", "score", "place", "games", "loser_points"] "score_of_sets" s_score_of_sets T.f_score_of_sets 3 ((defBody s_score_of_sets).drop 2) :=
  ⟨_, fun cdv A outer s H E hr => pss_end (k := 2) rfl (ps_ret (pv 2))⟩
noncomputable def t_score_of_sets_2 (T : Tx K mg) : TS := (tmk_score_of_sets_2 T).t
noncomputable def tmk_score_of_sets_1 (T : Tx K mg) : Tm K mg ["rules", "done", "score", "place", "games", "loser_points"] "score_of_sets" s_score_of_sets T.f_score_of_sets 3 ((defBody s_score_of_sets).drop 1) :=
  ⟨tSeq _ (t_score_of_sets_2 T), fun cdv A outer s H E hr => pss_at (k := 1) rfl (ps_for PassesOwn.never rfl (pi_range3 rfl T.z_range (pa_cons pe_int (pa_cons (pe_callB (show CallR _ _ (Pr.rLen K) from call_len_seq) (by rfl) T.z_len bt_len (pa_cons (pv 1) pa_nil)) (pa_cons pe_int pa_nil)))) (pg_name (i := 3) sc_score_of_sets.nd rfl (Or.inl rfl)) (pss_cons (ps_set (i := 4) sc_score_of_sets.nd rfl (Or.inl rfl) (pe_tup (pa_cons (pe_ix (show IxR _ (rIxL K) from ix_list) (pv 1) (pv 3) (fun _ _ => rfl)) (pa_cons (pe_ix (show IxR _ (rIxL K) from ix_list) (pv 1) (pe_op op_add (pv 3) pe_int) (fun _ _ => rfl)) pa_nil))))
      (pss_cons (ps_set (i := 5) sc_score_of_sets.nd rfl (Or.inl rfl) (pe_ix (show IxR _ (rIxL K) from ix_list) (pv 1) (pe_op op_add (pv 3) pe_int) (fun _ _ => rfl)))
      (pss_cons (ps_if (PW.pt (pw_or (pt_val (pe_call (ok_match_over T) (hr.mono (by decide)) rfl T.g_match_over T.F_match_over.kp T.b_match_over .nil pass0 (pa_cons (pv 0) (pa_cons (pv 2) pa_nil)))) (pw_or1 (pt_not (pt_val (pe_call (ok_set_can_end T) (hr.mono (by decide)) rfl T.g_set_can_end T.F_set_can_end.kp T.b_set_can_end .nil pass0 (pa_cons (pv 0) (pa_cons (pv 2) (pa_cons (pv 4) (pa_cons (pv 5) pa_nil)))))))))) (pss_one (ps_ret pe_non)) pss_nil)
      (pss_one (ps_set (i := 2) sc_score_of_sets.nd rfl (Or.inl rfl) (pe_call (ok_after_set T) (hr.mono (by decide)) rfl T.g_after_set T.F_after_set.kp T.b_after_set .nil pass0 (pa_cons (pv 2) (pa_cons (pv 4) (pa_cons (pv 5) pa_nil))))))))))
    ((tmk_score_of_sets_2 T).ok cdv A outer s H E hr)⟩
noncomputable def t_score_of_sets_1 (T : Tx K mg) : TS := (tmk_score_of_sets_1 T).t
noncomputable def tmk_score_of_sets_0 (T : Tx K mg) : Tm K mg ["rules", "done", "score", "place", "games", "loser_points"] "score_of_sets" s_score_of_sets T.f_score_of_sets 3 ((defBody s_score_of_sets).drop 0) :=
  ⟨tSeq _ (t_score_of_sets_1 T), fun cdv A outer s H E hr => pss_at (k := 0) rfl (ps_set (i := 2) sc_score_of_sets.nd rfl (Or.inl rfl) (pe_call0 (ok_first_score T) (hr.mono (by decide)) rfl T.g_first_score T.F_first_score.kp T.b_first_score .nil pass0))
    ((tmk_score_of_sets_1 T).ok cdv A outer s H E hr)⟩
noncomputable def t_score_of_sets_0 (T : Tx K mg) : TS := (tmk_score_of_sets_0 T).t
theorem ok_score_of_sets (T : Tx K mg) : FnOk P w K mg base CX0 4 T.f_score_of_sets T.d_score_of_sets ["rules", "done"] (sp_score_of_sets T) := by
  refine T.F_score_of_sets.ok sc_score_of_sets (fun vs H Q E h => ?_) (fun cdv A outer s H vs Q E hr h => ?_)
  · obtain ⟨_, _, _, _, _, rfl, _⟩ := h
    rfl
  · obtain ⟨ra, da, r, ns, n, rfl, hR, hD, hlen, hn, kN, kS⟩ := h
    refine ⟨t_score_of_sets_0 T, (tmk_score_of_sets_0 T).ok _ _ _ _ _ _ hr, ?_⟩
    refine ⟨rfl, fun a0 H0 n0 s0 A0 => ?_⟩
    have hD0 := s0 _ _ hD
    have htl := Pd.triples_len n ns hlen
    refine (exE rfl (ex2 da _ ⟨rfl, .inl (SqL.of hD0), ?_⟩))
    have rg : RgC 0 (((nv ns).length : Nat) : Int) 3 n := by
      have e : (nv ns).length = 3 * n := by unfold nv; rw [List.length_map, hlen]
      rw [e]
      exact rg3 n hn
    refine ⟨0, _, 3, n, rfl, rg, for_rangeC (lo := 0) (c := 3) (n := n) (fun i σ' H' => ∃ a v3 v4 v5, σ' = [some (.ref ra), some (.ref da), some (.ref a), v3, v4, v5] ∧ Same H H' ∧ ScoreAt T H' a ⟨(Ks303Neutral.triples ns).take i, 0, 0, 0, 0⟩ ∧
      Ks301.okSets r [] (Ks303Neutral.triples ns) = Ks301.okSets r ((Ks303Neutral.triples ns).take i) ((Ks303Neutral.triples ns).drop i) ∧ Ks301.setsOf true ((Ks303Neutral.triples ns).take i) ≤ r.sets ∧ Ks301.setsOf false ((Ks303Neutral.triples ns).take i) ≤ r.sets) ?_ ?_ ?_⟩
    · exact (ex4 a0 _ _ _ ⟨rfl, s0, A0, rfl, Nat.zero_le _, Nat.zero_le _⟩)
    · rintro i σ' H' hi ⟨a, v3, v4, v5, rfl, s1, hA, hok, wa, wb⟩
      obtain ⟨x, y, z, e0, e1, e2, e3⟩ := Pd.triples_get n ns i hlen hi
      have hD1 := s1 _ _ hD
      have i0 : (0 : Int) + (i : Nat) * 3 = ((3 * i : Nat) : Int) := by omega
      have i1 : (0 : Int) + (i : Nat) * 3 + 1 = ((3 * i + 1 : Nat) : Int) := by omega
      have i2 : (0 : Int) + (i : Nat) * 3 + 2 = ((3 * i + 2 : Nat) : Int) := by omega
      refine (exE rfl (exE rfl (ixv (SqL.of hD1) (at_of i0 (nv_get e1)) (exE rfl (exE rfl (ii2 (ixv (SqL.of hD1) (at_of i1 (nv_get e2)) ⟨(sz rfl), fun g n2 => ?_⟩)))))))
      generalize hU17 : upd _ g _ = H2
      obtain ⟨s2, hg⟩ := new_of n2 hU17
      have hD2 := s2 _ _ hD1
      refine (exE rfl (exE rfl (ii2 (ixv (SqL.of hD2) (at_of i2 (nv_get e3)) ?_))))
      have R2 := hR.imm (s1.trans s2).imm
      have A2 := hA.imm s2.imm
      have hstep := Pd.okSets_step (r := r) e0
      refine (exE rfl (exE rfl (ex4 ra a r _ ⟨rfl, R2, A2, wa, wb, exE rfl ?_⟩)))
      refine ite2 (fun c => ?_) (fun c => ?_)
      · refine iteT (kN _ (s1.trans s2) ?_)
        rw [hok, hstep, c]
        rfl
      · refine (exE rfl (exE rfl (exE rfl (exE rfl ⟨ra, a, g, r, _, x, y, z, rfl, R2, A2, hg, fun H3 s3 => (exE rfl ?_)⟩))))
        rw [Bool.not_eq_true] at c
        refine ite2 (fun c1 => ?_) (fun c1 => ?_)
        · refine kN _ ((s1.trans s2).trans s3) ?_
          simp at c1
          rw [hok, hstep, c]
          simp [c1]
        · have c2 : Ks301.okSet r ((Ks303Neutral.triples ns).take i) (x, y, z) = true := by simpa using c1
          have hne := Pd.okSet_ne c2
          have hl2 : ((Ks303Neutral.triples ns).take i).length ≤ 1000 := by rw [List.length_take, htl]; omega
          refine (exE rfl (exE rfl (exE rfl ⟨a, g, _, (x, y), z, rfl, A2.imm s3.imm, (show T2 H2 g x y from hg).imm s3.imm, hne, hl2, fun b H4 s4 hB => ?_⟩)))
          have eT := Pd.take_one_more e0
          have o := Pd.over_f.mp (show Ks301.over r ((Ks303Neutral.triples ns).take i) = false from c)
          refine (ex4 b _ _ _ ⟨rfl, ((s1.trans s2).trans s3).trans s4, ?_, ?_, ?_, ?_⟩)
          · rw [eT]
            exact hB
          · rw [hok, hstep, c, c2]
            rfl
          · rw [eT, Pd.setsOf_t]
            split <;> omega
          · rw [eT, Pd.setsOf_f]
            split <;> omega
    · rintro σ' H' ⟨a, v3, v4, v5, rfl, s1, hA, hok, wa, wb⟩
      refine (exE rfl ?_)
      rw [← htl, List.take_length] at hA
      rw [← htl, List.drop_length, List.take_length] at hok
      exact kS a H' s1 hok hA
/-- now == [0, 0, 0, 0] -/
theorem eq_four {K : PySem.W.Frag} {H : Hp} {a b : Addr} {x y z u : Nat} {Q : VK} (ha : H a = some (.lst (nv [x, y, z, u]))) (hb : H b = some (.lst [.int 0, .int 0, .int 0, .int 0])) (q : Q (.bl (decide (x = 0 ∧ y = 0 ∧ z = 0 ∧ u = 0))) H) : rEqD K (.ref a) (.ref b) H Q := by
  refine ⟨.list [.int x, .int y, .int z, .int u], .list [.int 0, .int 0, .int 0, .int 0], .lst (SqL.of ha) (.cons (.int _) (.cons (.int _) (.cons (.int _) (.cons (.int _) .nil)))), .lst (SqL.of hb) (.cons (.int _) (.cons (.int _) (.cons (.int _) (.cons (.int _) .nil)))), rfl, rfl, ?_⟩
  have e : PyData.eqv (.list [.int x, .int y, .int z, .int u]) (.list [.int 0, .int 0, .int 0, .int 0]) = decide (x = 0 ∧ y = 0 ∧ z = 0 ∧ u = 0) := by
    rw [Bool.eq_iff_iff]
    simp [PyData.eqv, PyData.eqvAll]
  rw [e]
  exact q
def sp_told_score (T : Tx K mg) : Sp := fun vs H Q _ => ∃ (ra da na : Addr) (r : Rules) (ns : List Nat) (n ga gb pa pb : Nat), vs = [.ref ra, .ref da, .ref na] ∧ RulesAt T H ra r ∧ Ks301.okRules r = true ∧ H da = some (.lst (nv ns)) ∧ ns.length = 3 * n ∧ n ≤ 5 ∧ H na = some (.lst (nv [ga, gb, pa, pb])) ∧
  (∀ H', Same H H' → Ks301.can r (Ks303Neutral.scoreOf ns [ga, gb, pa, pb]) = false → Q .non H') ∧
  (∀ (a : Addr) (H' : Hp), Same H H' → Ks301.can r (Ks303Neutral.scoreOf ns [ga, gb, pa, pb]) = true → ScoreAt T H' a (Ks303Neutral.scoreOf ns [ga, gb, pa, pb]) → Q (.ref a) H')
noncomputable def tmk_told_score_5 (T : Tx K mg) : Tm K mg ["rules", "done", "now", "score"] "told_score" s_told_score T.f_told_score 4 ((defBody s_told_score).drop 5) :=
  ⟨_, fun cdv A outer s H E hr => pss_end (k := 5) rfl (ps_ret (pe_ifExp (pt_val (pe_call (ok_points_can_be T) (hr.mono (by decide)) rfl T.g_points_can_be T.F_points_can_be.kp T.b_points_can_be .nil pass0 (pa_cons (pv 0) (pa_cons (pv 3) pa_nil)))) (pv 3) pe_non))⟩
noncomputable def t_told_score_5 (T : Tx K mg) : TS := (tmk_told_score_5 T).t
noncomputable def tmk_told_score_4 (T : Tx K mg) : Tm K mg ["rules", "done", "now", "score"] "told_score" s_told_score T.f_told_score 4 ((defBody s_told_score).drop 4) :=
  ⟨tSeq _ (t_told_score_5 T), fun cdv A outer s H E hr => pss_at (k := 4) rfl (ps_set (i := 3) sc_told_score.nd rfl (Or.inl rfl) (pe_make T.mk_Score (ok_Score_init T) (hr.mono (by decide)) rfl T.g_Score T.b_Score_init .nil pass0 (pa_cons (show PE _ _ (tFld K _ _) from pe_fld (pv 3) rfl) (pa_cons (show PE _ _ (tFld K _ _) from pe_fld (pv 3) rfl) (pa_cons (pe_tup (pa_cons (pe_ix (show IxR _ (rIxL K) from ix_list) (pv 2) pe_int (fun _ _ => rfl)) (pa_cons (pe_ix (show IxR _ (rIxL K) from ix_list) (pv 2) pe_int (fun _ _ => rfl)) pa_nil))) (pa_cons (pe_tup (pa_cons (pe_ix (show IxR _ (rIxL K) from ix_list) (pv 2) pe_int (fun _ _ => rfl)) (pa_cons (pe_ix (show IxR _ (rIxL K) from ix_list) (pv 2) pe_int (fun _ _ => rfl)) pa_nil))) pa_nil))))))
    ((tmk_told_score_5 T).ok cdv A outer s H E hr)⟩
noncomputable def t_told_score_4 (T : Tx K mg) : TS := (tmk_told_score_4 T).t
noncomputable def tmk_told_score_3 (T : Tx K mg) : Tm K mg ["rules", "done", "now", "score"] "told_score" s_told_score T.f_told_score 4 ((defBody s_told_score).drop 3) :=
  ⟨tSeq _ (t_told_score_4 T), fun cdv A outer s H E hr => pss_at (k := 3) rfl (ps_if (pt_not (pt_val (pe_call (ok_games_can_be T) (hr.mono (by decide)) rfl T.g_games_can_be T.F_games_can_be.kp T.b_games_can_be .nil pass0 (pa_cons (pv 0) (pa_cons (pv 3) (pa_cons (pe_ix (show IxR _ (rIxL K) from ix_list) (pv 2) pe_int (fun _ _ => rfl)) (pa_cons (pe_ix (show IxR _ (rIxL K) from ix_list) (pv 2) pe_int (fun _ _ => rfl)) pa_nil))))))) (pss_one (ps_ret pe_non)) pss_nil)
    ((tmk_told_score_4 T).ok cdv A outer s H E hr)⟩
noncomputable def t_told_score_3 (T : Tx K mg) : TS := (tmk_told_score_3 T).t
noncomputable def tmk_told_score_2 (T : Tx K mg) : Tm K mg ["rules", "done", "now", "score"] "told_score" s_told_score T.f_told_score 4 ((defBody s_told_score).drop 2) :=
  ⟨tSeq _ (t_told_score_3 T), fun cdv A outer s H E hr => pss_at (k := 2) rfl (ps_if (pt_val (pe_call (ok_match_over T) (hr.mono (by decide)) rfl T.g_match_over T.F_match_over.kp T.b_match_over .nil pass0 (pa_cons (pv 0) (pa_cons (pv 3) pa_nil)))) (pss_one (ps_ret (pe_ifExp (pt_cmpR (show OpR _ _ (rEqD K) from op_eqD hr.units) (pv 2) (pe_lst (pa_cons pe_int (pa_cons pe_int (pa_cons pe_int (pa_cons pe_int pa_nil))))) (nomark _)) (pv 3) pe_non))) pss_nil)
    ((tmk_told_score_3 T).ok cdv A outer s H E hr)⟩
noncomputable def t_told_score_2 (T : Tx K mg) : TS := (tmk_told_score_2 T).t
noncomputable def tmk_told_score_1 (T : Tx K mg) : Tm K mg ["rules", "done", "now", "score"] "told_score" s_told_score T.f_told_score 4 ((defBody s_told_score).drop 1) :=
  ⟨tSeq _ (t_told_score_2 T), fun cdv A outer s H E hr => pss_at (k := 1) rfl (ps_if (pt_cmpR op_isN (pv 3) pe_non (nomark _)) (pss_one (ps_ret pe_non)) pss_nil)
    ((tmk_told_score_2 T).ok cdv A outer s H E hr)⟩
noncomputable def t_told_score_1 (T : Tx K mg) : TS := (tmk_told_score_1 T).t
noncomputable def tmk_told_score_0 (T : Tx K mg) : Tm K mg ["rules", "done", "now", "score"] "told_score" s_told_score T.f_told_score 4 ((defBody s_told_score).drop 0) :=
  ⟨tSeq _ (t_told_score_1 T), fun cdv A outer s H E hr => pss_at (k := 0) rfl (ps_set (i := 3) sc_told_score.nd rfl (Or.inl rfl) (pe_call (ok_score_of_sets T) (hr.mono (by decide)) rfl T.g_score_of_sets T.F_score_of_sets.kp T.b_score_of_sets .nil pass0 (pa_cons (pv 0) (pa_cons (pv 1) pa_nil))))
    ((tmk_told_score_1 T).ok cdv A outer s H E hr)⟩
noncomputable def t_told_score_0 (T : Tx K mg) : TS := (tmk_told_score_0 T).t
theorem ok_told_score (T : Tx K mg) : FnOk P w K mg base CX0 5 T.f_told_score T.d_told_score ["rules", "done", "now"] (sp_told_score T) := by
  refine T.F_told_score.ok sc_told_score (fun vs H Q E h => ?_) (fun cdv A outer s H vs Q E hr h => ?_)
  · obtain ⟨_, _, _, _, _, _, _, _, _, _, rfl, _⟩ := h
    rfl
  · obtain ⟨ra, da, na, r, ns, n, ga, gb, pa, pb, rfl, hR, hok, hD, hlen, hn, hN, kN, kS⟩ := h
    refine ⟨t_told_score_0 T, (tmk_told_score_0 T).ok _ _ _ _ _ _ hr, ?_⟩
    have hcan : Ks301.can r (Ks303Neutral.scoreOf ns [ga, gb, pa, pb]) = (Ks301.okSets r [] (Ks303Neutral.triples ns) && (if Ks301.over r (Ks303Neutral.triples ns) then ga == 0 && gb == 0 && pa == 0 && pb == 0 else Ks301.okGames r (Ks303Neutral.triples ns) ga gb && Ks301.okPoints r (Ks303Neutral.scoreOf ns [ga, gb, pa, pb]))) := rfl
    rw [hcan] at kN kS
    refine (exE rfl (exE rfl ⟨ra, da, r, ns, n, rfl, hR, hD, hlen, hn, fun H1 s1 e1 => ?_, fun a H1 s1 e1 A1 => ?_⟩))
    · refine (exE rfl ⟨rfl, exE rfl (iteT (kN _ s1 ?_))⟩)
      rw [e1]
      rfl
    · rw [e1, Bool.true_and] at kN kS
      have w := Pd.okSets_wf hok (Ks303Neutral.triples ns) [] (Nat.zero_le _) (Nat.zero_le _) rfl e1
      rw [List.nil_append] at w
      refine (exE rfl ⟨rfl, exE rfl (iteF ?_)⟩)
      have R1 := hR.imm s1.imm
      have hN1 := s1 _ _ hN
      refine (exE rfl (exE rfl (ex4 ra a r _ ⟨rfl, R1, A1, w.1, w.2.1, exE rfl ?_⟩)))
      refine ite2 (fun c => ?_) (fun c => ?_)
      · have c' : Ks301.over r (Ks303Neutral.triples ns) = true := c
        rw [if_pos c'] at kN kS
        refine (exE rfl ⟨(sz rfl), fun p n2 => ?_⟩)
        generalize hU18 : upd _ p _ = H2
        obtain ⟨s2, e2⟩ := new_of n2 hU18
        refine eq_four (s2 _ _ hN1) e2 (exE rfl ?_)
        refine ite2 (fun c1 => ?_) (fun c1 => ?_)
        · simp at c1
          obtain ⟨rfl, rfl, rfl, rfl⟩ := c1
          exact (exE rfl (kS a H2 (s1.trans s2) rfl (A1.imm s2.imm)))
        · refine kN _ (s1.trans s2) ?_
          rw [← Bool.not_eq_true]
          simpa [and_assoc] using c1
      · have c' : ¬ Ks301.over r (Ks303Neutral.triples ns) = true := c
        rw [if_neg c'] at kN kS
        refine (exE rfl (exE rfl (exE rfl (ixn (j := 0) (SqL.of hN1) rfl rfl (exE rfl (ixn (j := 1) (SqL.of hN1) rfl rfl (ex6 ra a r _ ga gb ⟨rfl, R1, A1, fun H2 s2 => (exE rfl ?_)⟩)))))))
        refine ite2 (fun c1 => ?_) (fun c1 => ?_)
        · refine kN _ (s1.trans s2) ?_
          have c2 : Ks301.okGames r (Ks303Neutral.triples ns) ga gb = false := by simpa using c1
          rw [c2]
          rfl
        · have c2 : Ks301.okGames r (Ks303Neutral.triples ns) ga gb = true := by simpa using c1
          rw [c2, Bool.true_and] at kN kS
          obtain ⟨td, tw, tg, tp, ts, h1, h2, h3, h4, h5⟩ := (A1.imm s2.imm).ex
          have hN2 := s2 _ _ hN1
          refine ((exE rfl (h1.done ((exE rfl (h1.won (exE rfl (ixn (j := 0) (SqL.of hN2) rfl rfl (exE rfl (ixn (j := 1) (SqL.of hN2) rfl rfl ⟨(sz rfl), fun p3 n3 => ?_⟩))))))))))
          generalize hU19 : upd _ p3 _ = H3
          obtain ⟨s3, e3⟩ := new_of n3 hU19
          have hN3 := s3 _ _ hN2
          refine (exE rfl (ixn (j := 2) (SqL.of hN3) rfl rfl (exE rfl (ixn (j := 3) (SqL.of hN3) rfl rfl ⟨(sz rfl), fun p4 n4 => ?_⟩))))
          generalize hU20 : upd _ p4 _ = H4
          obtain ⟨s4, e4⟩ := new_of n4 hU20
          refine mk_Score fun q H5 n5 s5 hP => ?_
          have s25 := (s3.trans s4).trans s5
          have A5 : ScoreAt T H5 q (Ks303Neutral.scoreOf ns [ga, gb, pa, pb]) := ScoreAt.mk' (s := Ks303Neutral.scoreOf ns [ga, gb, pa, pb]) hP (h2.imm s25.imm) (h3.imm s25.imm) ((s4.trans s5) _ _ e3) (s5 _ _ e4)
          have s15 := (s1.trans s2).trans s25
          refine (exE rfl (exE rfl (ex4 ra q r _ ⟨rfl, hR.imm s15.imm, A5, fun H6 s6 => (exE rfl ?_)⟩)))
          refine ite2 (fun c3 => ?_) (fun c3 => ?_)
          · exact (exE rfl (kS q H6 (s15.trans s6) c3 (A5.imm s6.imm)))
          · exact kN _ (s15.trans s6) (by simpa using c3)
end
end Pt

end
section
set_option Elab.async false
set_option linter.all false
set_option maxRecDepth 100000
set_option maxHeartbeats 2000000
namespace Pt
open PySem PySem.Spec PyProof.Rows L2
open Ks301 (Rules Score)
open Ks303 (Abs act)
/-! ### the desk -/
def deskFs (vr vw vs : V) : List (Str × V) := [("rules", vr), ("winners", vw), ("scores", vs)]
theorem deskFs_rules (vr vw vs : V) : (deskFs vr vw vs).lookup ("rules" : Str) = some vr := by rfl
theorem deskFs_winners (vr vw vs : V) : (deskFs vr vw vs).lookup ("winners" : Str) = some vw := by rfl
theorem deskFs_scores (vr vw vs : V) : (deskFs vr vw vs).lookup ("scores" : Str) = some vs := by rfl
theorem deskFs_no (vr vw vs : V) {m : Str} (h1 : m ≠ "rules") (h2 : m ≠ "winners") (h3 : m ≠ "scores") : (deskFs vr vw vs).lookup m = none := by
  unfold deskFs
  rw [List.lookup_cons, beq_eq_false_iff_ne.mpr h1]
  simp only
  rw [List.lookup_cons, beq_eq_false_iff_ne.mpr h2]
  simp only
  rw [List.lookup_cons, beq_eq_false_iff_ne.mpr h3]
  rfl
theorem put_rules (vr vw vs v : V) : putF "rules" v (deskFs vr vw vs) = deskFs v vw vs := by rfl
theorem put_winners (vr vw vs v : V) : putF "winners" v (deskFs vr vw vs) = deskFs vr v vs := by rfl
theorem put_scores (vr vw vs v : V) : putF "scores" v (deskFs vr vw vs) = deskFs vr vw v := by rfl
def wv (ws : List Bool) : List V := ws.map fun x => V.int (who x)
section
variable {P : Program} {w : World} {K : PySem.W.Frag} {mg : Str → Option Value} {base : Heap}
structure DeskIs (T : Tx K mg) (H : Hp) (p lw ls : Addr) (vr : V) (wl sl : List V) : Prop where
  obj : ∃ dx, H p = some (.ins T.c_Desk dx (deskFs vr (.ref lw) (.ref ls)))
  win : H lw = some (.lst wl)
  sco : H ls = some (.lst sl)
  ne : lw ≠ ls
/-- the desk in the state a stands at p, its lists at lw, ls -/
structure DeskAt (T : Tx K mg) (H : Hp) (p lw ls : Addr) (a : Abs) : Prop where
  ex : ∃ vr ws ts as, DeskIs T H p lw ls vr (wv ws) (as.map V.ref) ∧ Pd.Inv a ws ts ∧ Paired (ScoreAt T H) as ts ∧ (a.on = false → vr = .non) ∧ (a.on = true → ∃ ra, vr = .ref ra ∧ RulesAt T H ra a.rules)
/-- all but the desk's own stays -/
def Keeps (p lw ls : Addr) (H H' : Hp) : Prop := ∀ b o, H b = some o → b ≠ p → b ≠ lw → b ≠ ls → H' b = some o
theorem _root_.L2.Same.keeps {p lw ls : Addr} {H H' : Hp} (s : Same H H') : Keeps p lw ls H H' := fun b o h _ _ _ => s b o h
theorem Keeps.trans {p lw ls : Addr} {H H1 H2 : Hp} (a : Keeps p lw ls H H1) (b : Keeps p lw ls H1 H2) : Keeps p lw ls H H2 := fun c o h h1 h2 h3 => b c o (a c o h h1 h2 h3) h1 h2 h3
theorem Keeps.upd_p {p lw ls : Addr} {H : Hp} {o : HO} : Keeps p lw ls H (upd H p o) := fun b u e hb _ _ => by rw [upd_ne hb]; exact e
theorem Keeps.upd_w {p lw ls : Addr} {H : Hp} {o : HO} : Keeps p lw ls H (upd H lw o) := fun b u e _ hb _ => by rw [upd_ne hb]; exact e
theorem Keeps.upd_s {p lw ls : Addr} {H : Hp} {o : HO} : Keeps p lw ls H (upd H ls o) := fun b u e _ _ hb => by rw [upd_ne hb]; exact e
theorem DeskIs.imm {T : Tx K mg} {H H' : Hp} {p lw ls : Addr} {vr : V} {wl sl : List V} (D : DeskIs T H p lw ls vr wl sl) (k : Keeps p lw ls H H') : Imm H H' := fun b o e f => by
  obtain ⟨dx, hp⟩ := D.obj
  refine k b o e (fun z => ?_) (fun z => ?_) (fun z => ?_)
  · subst z
    rw [hp] at e
    cases e
    exact absurd f (by show ¬ ((deskFs vr (.ref lw) (.ref ls)).lookup ("winners" : Str)).isNone = true; rw [deskFs_winners]; simp)
  · subst z
    rw [D.win] at e
    cases e
    exact absurd f (by simp [fixed])
  · subst z
    rw [D.sco] at e
    cases e
    exact absurd f (by simp [fixed])
theorem DeskIs.pw {T : Tx K mg} {H : Hp} {p lw ls : Addr} {vr : V} {wl sl : List V} (D : DeskIs T H p lw ls vr wl sl) : p ≠ lw := by
  obtain ⟨dx, hp⟩ := D.obj
  exact ne_of hp D.win (by intro z; cases z)
theorem DeskIs.ps {T : Tx K mg} {H : Hp} {p lw ls : Addr} {vr : V} {wl sl : List V} (D : DeskIs T H p lw ls vr wl sl) : p ≠ ls := by
  obtain ⟨dx, hp⟩ := D.obj
  exact ne_of hp D.sco (by intro z; cases z)
theorem DeskIs.same {T : Tx K mg} {H H' : Hp} {p lw ls : Addr} {vr : V} {wl sl : List V} (D : DeskIs T H p lw ls vr wl sl) (s : Same H H') : DeskIs T H' p lw ls vr wl sl := by
  obtain ⟨dx, hp⟩ := D.obj
  exact ⟨⟨dx, s _ _ hp⟩, s _ _ D.win, s _ _ D.sco, D.ne⟩
theorem DeskAt.same {T : Tx K mg} {H H' : Hp} {p lw ls : Addr} {a : Abs} (D : DeskAt T H p lw ls a) (s : Same H H') : DeskAt T H' p lw ls a := by
  obtain ⟨vr, ws, ts, as, h1, h2, h3, h4, h5⟩ := D.ex
  exact ⟨vr, ws, ts, as, h1.same s, h2, paired_imp (fun _ _ q => ScoreAt.imm s.imm q) h3, h4, fun o => let ⟨ra, e, q⟩ := h5 o; ⟨ra, e, q.imm s.imm⟩⟩
/-- the fields, read -/
theorem DeskIs.rules {T : Tx K mg} {H : Hp} {p lw ls : Addr} {vr : V} {wl sl : List V} (D : DeskIs T H p lw ls vr wl sl) {Q : V → Prop} (q : Q vr) : ∃ (a' C dx : Addr) (fs : List (Str × V)) (v : V), V.ref p = .ref a' ∧ H a' = some (.ins C dx fs) ∧ Cls K C ∧ NoAttr K C "rules" ∧ fs.lookup ("rules" : Str) = some v ∧ Q v := by
  obtain ⟨dx, hp⟩ := D.obj
  exact (ex5 p _ dx _ _ ⟨rfl, hp, T.k_Desk, T.n_Desk_rules, deskFs_rules _ _ _, q⟩)
theorem DeskIs.winners {T : Tx K mg} {H : Hp} {p lw ls : Addr} {vr : V} {wl sl : List V} (D : DeskIs T H p lw ls vr wl sl) {Q : V → Prop} (q : Q (.ref lw)) : ∃ (a' C dx : Addr) (fs : List (Str × V)) (v : V), V.ref p = .ref a' ∧ H a' = some (.ins C dx fs) ∧ Cls K C ∧ NoAttr K C "winners" ∧ fs.lookup ("winners" : Str) = some v ∧ Q v := by
  obtain ⟨dx, hp⟩ := D.obj
  exact (ex5 p _ dx _ _ ⟨rfl, hp, T.k_Desk, T.n_Desk_winners, deskFs_winners _ _ _, q⟩)
theorem DeskIs.scores {T : Tx K mg} {H : Hp} {p lw ls : Addr} {vr : V} {wl sl : List V} (D : DeskIs T H p lw ls vr wl sl) {Q : V → Prop} (q : Q (.ref ls)) : ∃ (a' C dx : Addr) (fs : List (Str × V)) (v : V), V.ref p = .ref a' ∧ H a' = some (.ins C dx fs) ∧ Cls K C ∧ NoAttr K C "scores" ∧ fs.lookup ("scores" : Str) = some v ∧ Q v := by
  obtain ⟨dx, hp⟩ := D.obj
  exact (ex5 p _ dx _ _ ⟨rfl, hp, T.k_Desk, T.n_Desk_scores, deskFs_scores _ _ _, q⟩)
/-- a field of the desk is set -/
def Set (K : PySem.W.Frag) (H : Hp) (x : V) (f : Str) (v : V) (Q : Hp → Prop) : Prop := ∃ a C dx fs, x = .ref a ∧ H a = some (.ins C dx fs) ∧ Cls K C ∧ NoAttr K C f ∧ fs.length < 1000 ∧ Q (upd H a (.ins C dx (putF f v fs)))
theorem DeskIs.set_rules {T : Tx K mg} {H : Hp} {p lw ls : Addr} {vr v : V} {wl sl : List V} (D : DeskIs T H p lw ls vr wl sl) {Q : Hp → Prop} (q : ∀ H', DeskIs T H' p lw ls v wl sl → Keeps p lw ls H H' → (∀ b, b ≠ p → H' b = H b) → Q H') : Set K H (.ref p) "rules" v Q := by
  obtain ⟨dx, hp⟩ := D.obj
  refine (ex4 p _ dx _ ⟨rfl, hp, T.k_Desk, T.n_Desk_rules, (by show 3 < 1000; decide), q _ ⟨⟨dx, ?_⟩, ?_, ?_, D.ne⟩ Keeps.upd_p fun b hb => upd_ne hb⟩)
  · rw [upd_same, put_rules]
  · rw [upd_ne D.pw.symm]; exact D.win
  · rw [upd_ne D.ps.symm]; exact D.sco
theorem DeskIs.set_winners {T : Tx K mg} {H : Hp} {p lw ls lw' : Addr} {vr : V} {wl sl wl' : List V} (D : DeskIs T H p lw ls vr wl sl) (hw : H lw' = some (.lst wl')) (hne : lw' ≠ ls) {Q : Hp → Prop} (q : ∀ H', DeskIs T H' p lw' ls vr wl' sl → (∀ b, b ≠ p → H' b = H b) → Q H') : Set K H (.ref p) "winners" (.ref lw') Q := by
  obtain ⟨dx, hp⟩ := D.obj
  have pn : p ≠ lw' := ne_of hp hw (by intro z; cases z)
  refine (ex4 p _ dx _ ⟨rfl, hp, T.k_Desk, T.n_Desk_winners, (by show 3 < 1000; decide), q _ ⟨⟨dx, ?_⟩, ?_, ?_, hne⟩ fun b hb => upd_ne hb⟩)
  · rw [upd_same, put_winners]
  · rw [upd_ne pn.symm]; exact hw
  · rw [upd_ne D.ps.symm]; exact D.sco
theorem DeskIs.set_scores {T : Tx K mg} {H : Hp} {p lw ls ls' : Addr} {vr : V} {wl sl sl' : List V} (D : DeskIs T H p lw ls vr wl sl) (hs : H ls' = some (.lst sl')) (hne : lw ≠ ls') {Q : Hp → Prop} (q : ∀ H', DeskIs T H' p lw ls' vr wl sl' → (∀ b, b ≠ p → H' b = H b) → Q H') : Set K H (.ref p) "scores" (.ref ls') Q := by
  obtain ⟨dx, hp⟩ := D.obj
  have pn : p ≠ ls' := ne_of hp hs (by intro z; cases z)
  refine (ex4 p _ dx _ ⟨rfl, hp, T.k_Desk, T.n_Desk_scores, (by show 3 < 1000; decide), q _ ⟨⟨dx, ?_⟩, ?_, ?_, hne⟩ fun b hb => upd_ne hb⟩)
  · rw [upd_same, put_scores]
  · rw [upd_ne D.pw.symm]; exact D.win
  · rw [upd_ne pn.symm]; exact hs

def sp_Desk_init (T : Tx K mg) : Sp := fun vs H Q _ => ∃ (p dx : Addr), vs = [.ref p] ∧ H p = some (.ins T.c_Desk dx []) ∧
  ∀ (H' : Hp) (lw ls : Addr), DeskIs T H' p lw ls .non [] [] → H lw = none → H ls = none → (∀ b o, H b = some o → b ≠ p → H' b = some o) → Q .non H'
noncomputable def tmk_Desk_init_2 (T : Tx K mg) : Tm K mg ["self"] "Desk.__init__" s_Desk_init T.f_Desk_init 0 ((defBody s_Desk_init).drop 2) :=
  ⟨_, fun cdv A outer s H E hr => pss_end (k := 2) rfl (show PS _ _ (sFld K _ _ _) from ps_fld (pv 0) (pe_lst pa_nil) rfl)⟩
noncomputable def t_Desk_init_2 (T : Tx K mg) : TS := (tmk_Desk_init_2 T).t
noncomputable def tmk_Desk_init_1 (T : Tx K mg) : Tm K mg ["self"] "Desk.__init__" s_Desk_init T.f_Desk_init 0 ((defBody s_Desk_init).drop 1) :=
  ⟨tSeq _ (t_Desk_init_2 T), fun cdv A outer s H E hr => pss_at (k := 1) rfl (show PS _ _ (sFld K _ _ _) from ps_fld (pv 0) (pe_lst pa_nil) rfl)
    ((tmk_Desk_init_2 T).ok cdv A outer s H E hr)⟩
noncomputable def t_Desk_init_1 (T : Tx K mg) : TS := (tmk_Desk_init_1 T).t
noncomputable def tmk_Desk_init_0 (T : Tx K mg) : Tm K mg ["self"] "Desk.__init__" s_Desk_init T.f_Desk_init 0 ((defBody s_Desk_init).drop 0) :=
  ⟨tSeq _ (t_Desk_init_1 T), fun cdv A outer s H E hr => pss_at (k := 0) rfl (show PS _ _ (sFld K _ _ _) from ps_fld (pv 0) pe_non rfl)
    ((tmk_Desk_init_1 T).ok cdv A outer s H E hr)⟩
noncomputable def t_Desk_init_0 (T : Tx K mg) : TS := (tmk_Desk_init_0 T).t
theorem ok_Desk_init (T : Tx K mg) : FnOk P w K mg base CX0 1 T.f_Desk_init T.d_Desk_init ["self"] (sp_Desk_init T) := by
  refine T.F_Desk_init.ok sc_Desk_init (fun vs H Q E h => ?_) (fun cdv A outer s H vs Q E hr h => ?_)
  · obtain ⟨p, dx, rfl, _⟩ := h
    rfl
  · obtain ⟨p, dx, rfl, hp, k⟩ := h
    refine ⟨t_Desk_init_0 T, (tmk_Desk_init_0 T).ok _ _ _ _ _ _ hr, ?_⟩
    refine (exE rfl (ex4 p _ dx [] ⟨rfl, hp, T.k_Desk, T.n_Desk_rules, (by decide), ?_⟩))
    refine ⟨(by decide), fun lw nw => ?_⟩
    have pw : p ≠ lw := fun z => by subst z; rw [upd_same] at nw; cases nw
    refine (exE rfl (ex4 p _ dx _ ⟨rfl, (by rw [upd_ne pw]; exact upd_same), T.k_Desk, T.n_Desk_winners, (by show 1 < 1000; decide), ?_⟩))
    refine ⟨(by decide), fun ls ns => ?_⟩
    have ps : p ≠ ls := fun z => by subst z; rw [upd_same] at ns; cases ns
    have ws : lw ≠ ls := fun z => by subst z; rw [upd_ne pw.symm, upd_same] at ns; cases ns
    refine (exE rfl (ex4 p _ dx _ ⟨rfl, (by rw [upd_ne ps]; exact upd_same), T.k_Desk, T.n_Desk_scores, (by show 2 < 1000; decide), ?_⟩))
    have nw' : H lw = none := by rw [upd_ne pw.symm] at nw; exact nw
    have ns' : H ls = none := by rw [upd_ne ps.symm, upd_ne ws.symm, upd_ne ps.symm] at ns; exact ns
    refine k _ lw ls ⟨⟨dx, ?_⟩, ?_, ?_, ws⟩ nw' ns' fun b o e hb => ?_
    · rw [upd_same]
      rfl
    · rw [upd_ne pw.symm, upd_ne ws, upd_ne pw.symm, upd_same]
    · rw [upd_ne ps.symm, upd_same]
    · rw [upd_ne hb, upd_ne (ne_of_none e ns'), upd_ne hb, upd_ne (ne_of_none e nw'), upd_ne hb]
      exact e
def sp_Desk_go_on_from (T : Tx K mg) : Sp := fun vs H Q _ => ∃ (p lw ls : Addr) (vr v : V) (wl sl : List V), vs = [.ref p, v] ∧ DeskIs T H p lw ls vr wl sl ∧
  ∀ (H' : Hp) (lw' ls' : Addr), DeskIs T H' p lw' ls' vr [] [v] → H lw' = none → H ls' = none → (∀ b o, H b = some o → b ≠ p → H' b = some o) → Q .non H'
noncomputable def tmk_Desk_go_on_from_1 (T : Tx K mg) : Tm K mg ["self", "score"] "Desk.go_on_from" s_Desk_go_on_from T.f_Desk_go_on_from 0 ((defBody s_Desk_go_on_from).drop 1) :=
  ⟨_, fun cdv A outer s H E hr => pss_end (k := 1) rfl (show PS _ _ (sFld K _ _ _) from ps_fld (pv 0) (pe_lst (pa_cons (pv 1) pa_nil)) rfl)⟩
noncomputable def t_Desk_go_on_from_1 (T : Tx K mg) : TS := (tmk_Desk_go_on_from_1 T).t
noncomputable def tmk_Desk_go_on_from_0 (T : Tx K mg) : Tm K mg ["self", "score"] "Desk.go_on_from" s_Desk_go_on_from T.f_Desk_go_on_from 0 ((defBody s_Desk_go_on_from).drop 0) :=
  ⟨tSeq _ (t_Desk_go_on_from_1 T), fun cdv A outer s H E hr => pss_at (k := 0) rfl (show PS _ _ (sFld K _ _ _) from ps_fld (pv 0) (pe_lst pa_nil) rfl)
    ((tmk_Desk_go_on_from_1 T).ok cdv A outer s H E hr)⟩
noncomputable def t_Desk_go_on_from_0 (T : Tx K mg) : TS := (tmk_Desk_go_on_from_0 T).t
theorem ok_Desk_go_on_from (T : Tx K mg) : FnOk P w K mg base CX0 1 T.f_Desk_go_on_from T.d_Desk_go_on_from ["self", "score"] (sp_Desk_go_on_from T) := by
  refine T.F_Desk_go_on_from.ok sc_Desk_go_on_from (fun vs H Q E h => ?_) (fun cdv A outer s H vs Q E hr h => ?_)
  · obtain ⟨_, _, _, _, _, _, _, rfl, _⟩ := h
    rfl
  · obtain ⟨p, lw, ls, vr, v, wl, sl, rfl, D, k⟩ := h
    refine ⟨t_Desk_go_on_from_0 T, (tmk_Desk_go_on_from_0 T).ok _ _ _ _ _ _ hr, ?_⟩
    refine ⟨(sz rfl), fun lw' n1 => ?_⟩
    generalize hU21 : upd _ lw' _ = H1
    obtain ⟨s1, e1⟩ := new_of n1 hU21
    refine (exE rfl ((D.same s1).set_winners e1 (fun z => ?_) fun H2 D2 k2 => ?_))
    · subst z
      rw [D.sco] at n1
      cases n1
    · refine (exE rfl ⟨(sz rfl), fun ls' n3 => ?_⟩)
      generalize hU22 : upd _ ls' _ = H3
      obtain ⟨s3, e3⟩ := new_of n3 hU22
      refine (exE rfl ((D2.same s3).set_scores e3 (fun z => ?_) fun H4 D4 k4 => ?_))
      · subst z
        rw [D2.win] at n3
        cases n3
      · have all : ∀ b o, H b = some o → b ≠ p → H4 b = some o := fun b o e hb => by
          rw [k4 b hb]
          refine s3 _ _ ?_
          rw [k2 b hb]
          exact s1 _ _ e
        refine k H4 lw' ls' D4 n1 ?_ all
        cases q : H ls' with
        | none => rfl
        | some o =>
          have pn : ls' ≠ p := fun z => by
            obtain ⟨dx, hp⟩ := D2.obj
            subst z
            rw [hp] at n3
            cases n3
          rw [k2 _ pn, s1 _ _ q] at n3
          cases n3
end
end Pt

end
section
set_option Elab.async false
set_option linter.all false
set_option maxRecDepth 100000
set_option maxHeartbeats 2000000
namespace Pt
open PySem PySem.Spec PyProof.Rows L2
open Ks301 (Rules Score)
open Ks303 (Abs act)
theorem paired_last {α β : Type} {R : α → β → Prop} {ys : List β} {b : β} : ∀ {xs : List α}, Paired R xs (ys ++ [b]) → ∃ xs' a, xs = xs' ++ [a] ∧ Paired R xs' ys ∧ R a b := by
  induction ys with
  | nil =>
    intro xs h
    cases h with
    | cons r t =>
      cases t
      exact (ex2 [] _ ⟨rfl, .nil, r⟩)
  | cons y ys ih =>
    intro xs h
    cases h with
    | cons r t =>
      obtain ⟨xs', a, e, h1, h2⟩ := ih t
      subst e
      exact (ex2 (_ :: xs') a ⟨rfl, .cons r h1, h2⟩)
theorem nil_or_snoc {α : Type} (l : List α) : l = [] ∨ ∃ m x, l = m ++ [x] := by
  rcases List.eq_nil_or_concat l with h | ⟨m, x, h⟩
  · exact .inl h
  · exact .inr ⟨m, x, by rw [h, List.concat_eq_append]⟩
theorem paired_take {α β : Type} {R : α → β → Prop} : ∀ (n : Nat) {xs : List α} {ys : List β}, Paired R xs ys → Paired R (xs.take n) (ys.take n)
  | 0, _, _, _ => .nil
  | _ + 1, _, _, .nil => .nil
  | n + 1, _, _, .cons r t => .cons r (paired_take n t)
section
variable {P : Program} {w : World} {K : PySem.W.Frag} {mg : Str → Option Value} {base : Heap}
/-- what a call of the desk leaves -/
def After (T : Tx K mg) (H : Hp) (p lw ls : Addr) (res : Abs × Ks303.Ans) (Q : VK) : Prop :=
  ∀ (H' : Hp) (lw' ls' : Addr), DeskAt T H' p lw' ls' res.1 → (lw' = lw ∨ H lw' = none) → (ls' = ls ∨ H ls' = none) → Keeps p lw ls H H' → Q (.int res.2.ret) H'
theorem After.stay {T : Tx K mg} {H H' : Hp} {p lw ls : Addr} {a : Abs} {v : Int} {res : Abs × Ks303.Ans} {Q : VK} (h : After T H p lw ls res Q) (e : res = (a, Ks303.no v)) (D : DeskAt T H p lw ls a) (s : Same H H') : Q (.int v) H' := by
  subst e
  exact h H' lw ls (D.same s) (.inl rfl) (.inl rfl) s.keeps
theorem DeskIs.put_win {T : Tx K mg} {H : Hp} {p lw ls : Addr} {vr : V} {wl sl : List V} (D : DeskIs T H p lw ls vr wl sl) (wl' : List V) : DeskIs T (upd H lw (.lst wl')) p lw ls vr wl' sl := by
  obtain ⟨dx, hp⟩ := D.obj
  exact ⟨⟨dx, by rw [upd_ne D.pw]; exact hp⟩, upd_same, by rw [upd_ne D.ne.symm]; exact D.sco, D.ne⟩
theorem DeskIs.put_sco {T : Tx K mg} {H : Hp} {p lw ls : Addr} {vr : V} {wl sl : List V} (D : DeskIs T H p lw ls vr wl sl) (sl' : List V) : DeskIs T (upd H ls (.lst sl')) p lw ls vr wl sl' := by
  obtain ⟨dx, hp⟩ := D.obj
  exact ⟨⟨dx, by rw [upd_ne D.ps]; exact hp⟩, by rw [upd_ne D.ne]; exact D.win, upd_same, D.ne⟩
theorem wv_len (ws : List Bool) : (wv ws).length = ws.length := List.length_map _

/-! ### begin -/
def sp_Desk_begin (T : Tx K mg) : Sp := fun vs H Q _ => ∃ (p lw ls : Addr) (a : Abs) (s g l h : Nat), vs = [.ref p, .int s, .int g, .int l, .int h] ∧ DeskAt T H p lw ls a ∧ After T H p lw ls (act a (.begin ⟨s, g, l != 0, h != 0⟩)) Q
theorem flag_is (n : Nat) {H : Hp} : if decide (V.int (n : Int) = V.int 0) = true then (V.int 0 = .int (b01 (n != 0)) ∧ H = H) else (V.int 1 = .int (b01 (n != 0)) ∧ H = H) := by
  by_cases c : n = 0
  · subst c
    exact iteT ⟨rfl, rfl⟩
  · have e : decide (V.int (n : Int) = V.int 0) = false := decide_eq_false (by intro z; cases z; exact c rfl)
    rw [e]
    refine iteF ⟨?_, rfl⟩
    have e2 : (n != 0) = true := by simpa using c
    rw [e2]
    rfl
noncomputable def tmk_Desk_begin_3 (T : Tx K mg) : Tm K mg ["self", "sets", "games", "long", "short"] "Desk.begin" s_Desk_begin T.f_Desk_begin 3 ((defBody s_Desk_begin).drop 3) :=
  ⟨_, fun cdv A outer s H E hr => pss_end (k := 3) rfl (ps_ret pe_int)⟩
noncomputable def t_Desk_begin_3 (T : Tx K mg) : TS := (tmk_Desk_begin_3 T).t
noncomputable def tmk_Desk_begin_2 (T : Tx K mg) : Tm K mg ["self", "sets", "games", "long", "short"] "Desk.begin" s_Desk_begin T.f_Desk_begin 3 ((defBody s_Desk_begin).drop 2) :=
  ⟨tSeq _ (t_Desk_begin_3 T), fun cdv A outer s H E hr => pss_at (k := 2) rfl (ps_expr (pe_meth (pv 0) T.k_Desk T.m_Desk_go_on_from (ok_Desk_go_on_from T) (hr.mono (by decide)) T.b_Desk_go_on_from .nil pass0 (pa_cons (pe_call0 (ok_first_score T) (hr.mono (by decide)) rfl T.g_first_score T.F_first_score.kp T.b_first_score .nil pass0) pa_nil)))
    ((tmk_Desk_begin_3 T).ok cdv A outer s H E hr)⟩
noncomputable def t_Desk_begin_2 (T : Tx K mg) : TS := (tmk_Desk_begin_2 T).t
noncomputable def tmk_Desk_begin_1 (T : Tx K mg) : Tm K mg ["self", "sets", "games", "long", "short"] "Desk.begin" s_Desk_begin T.f_Desk_begin 3 ((defBody s_Desk_begin).drop 1) :=
  ⟨tSeq _ (t_Desk_begin_2 T), fun cdv A outer s H E hr => pss_at (k := 1) rfl (show PS _ _ (sFld K _ _ _) from ps_fld (pv 0) (pe_make T.mk_Rules (ok_Rules_init T) (hr.mono (by decide)) rfl T.g_Rules T.b_Rules_init .nil pass0 (pa_cons (pv 1) (pa_cons (pv 2) (pa_cons (Pr.pe_mid (pe_ifExp (pt_cmpR op_eq (pv 3) pe_int (nomark _)) pe_int pe_int)) (pa_cons (Pr.pe_mid (pe_ifExp (pt_cmpR op_eq (pv 4) pe_int (nomark _)) pe_int pe_int)) pa_nil))))) rfl)
    ((tmk_Desk_begin_2 T).ok cdv A outer s H E hr)⟩
noncomputable def t_Desk_begin_1 (T : Tx K mg) : TS := (tmk_Desk_begin_1 T).t
noncomputable def tmk_Desk_begin_0 (T : Tx K mg) : Tm K mg ["self", "sets", "games", "long", "short"] "Desk.begin" s_Desk_begin T.f_Desk_begin 3 ((defBody s_Desk_begin).drop 0) :=
  ⟨tSeq _ (t_Desk_begin_1 T), fun cdv A outer s H E hr => pss_at (k := 0) rfl (ps_if (PW.pt (pw_or (pt_cmpR op_lt (pv 1) pe_int (nomark _)) (pw_or (pt_cmpR op_gt (pv 1) (pe_glob rfl T.v_MOST_SETS_TO_WIN T.r_MOST_SETS_TO_WIN) (nomark _)) (pw_or (pt_cmpR op_lt (pv 2) (pe_glob rfl T.v_LEAST_GAMES T.r_LEAST_GAMES) (nomark _)) (pw_or1 (pt_cmpR op_gt (pv 2) (pe_glob rfl T.v_MOST_GAMES T.r_MOST_GAMES) (nomark _))))))) (pss_one (ps_ret (pe_glob rfl T.v_OUT_OF_RANGE T.r_OUT_OF_RANGE))) pss_nil)
    ((tmk_Desk_begin_1 T).ok cdv A outer s H E hr)⟩
noncomputable def t_Desk_begin_0 (T : Tx K mg) : TS := (tmk_Desk_begin_0 T).t
theorem ok_Desk_begin (T : Tx K mg) : FnOk P w K mg base CX0 4 T.f_Desk_begin T.d_Desk_begin ["self", "sets", "games", "long", "short"] (sp_Desk_begin T) := by
  refine T.F_Desk_begin.ok sc_Desk_begin (fun vs H Q E h => ?_) (fun cdv A outer s H vs Q E hr h => ?_)
  · obtain ⟨_, _, _, _, _, _, _, _, rfl, _⟩ := h
    rfl
  · obtain ⟨p, lw, ls, a, s, g, l, h, rfl, D, k⟩ := h
    have bad : ¬ (1 ≤ s ∧ s ≤ 3 ∧ 2 ≤ g ∧ g ≤ 8) → Q (.int (-22)) H := fun z => by
      refine k.stay (a := a) (v := -22) ?_ D (Same.refl _)
      have e : Ks301.okRules ⟨s, g, l != 0, h != 0⟩ = false := by
        rw [← Bool.not_eq_true]
        exact fun q => z (Pd.okR.mp q)
      show (if Ks301.okRules ⟨s, g, l != 0, h != 0⟩ = false then (a, Ks303.no (-22)) else _) = _
      rw [if_pos e]
    refine ⟨t_Desk_begin_0 T, (tmk_Desk_begin_0 T).ok _ _ _ _ _ _ hr, ?_⟩
    refine (exE rfl (ii2 (exE rfl ?_)))
    refine ite2 (fun c => iteT (bad (by simp at c; omega))) (fun c1 => ?_)
    refine (exE rfl (ii2 (exE rfl ?_)))
    refine ite2 (fun c => iteT (bad (by simp at c; omega))) (fun c2 => ?_)
    refine (exE rfl (ii2 (exE rfl ?_)))
    refine ite2 (fun c => iteT (bad (by simp at c; omega))) (fun c3 => ?_)
    refine (exE rfl (ii2 (exE rfl ?_)))
    refine ite2 (fun c => bad (by simp at c; omega)) (fun c4 => ?_)
    have ok : Ks301.okRules ⟨s, g, l != 0, h != 0⟩ = true := Pd.okR.mpr (by simp at c1 c2 c3 c4; show 1 ≤ s ∧ s ≤ 3 ∧ 2 ≤ g ∧ g ≤ 8; omega)
    obtain ⟨vr, ws, ts, as, D1, I, hS, hoff, hon⟩ := D.ex
    refine (exE rfl (exE rfl ⟨fun v H' => v = .int (b01 (l != 0)) ∧ H = H', (exE rfl ⟨rfl, exE rfl (flag_is l)⟩), ?_⟩))
    rintro v H' ⟨rfl, rfl⟩
    refine ⟨fun v H' => v = .int (b01 (h != 0)) ∧ H = H', (exE rfl ⟨rfl, exE rfl (flag_is h)⟩), ?_⟩
    rintro v H' ⟨rfl, rfl⟩
    refine mk_Rules (r := ⟨s, g, l != 0, h != 0⟩) fun ra H1 n1 s1 R1 => (exE rfl ((D1.same s1).set_rules fun H2 D2 k2 e2 => ?_))
    obtain ⟨dx, hp2⟩ := D2.obj
    refine (exE rfl (ex3 p dx _ ⟨rfl, hp2, deskFs_no _ _ _ (by decide +kernel) (by decide +kernel) (by decide +kernel), rfl, fun b H3 n3 s3 B3 => ?_⟩))
    refine (ex7 p lw ls _ _ _ _ ⟨rfl, D2.same s3, fun H4 lw' ls' D4 nw ns k4 => ?_⟩)
    have R2 : RulesAt T H2 ra ⟨s, g, l != 0, h != 0⟩ := R1.imm ((D1.same s1).imm k2)
    have i34 : Imm H3 H4 := (D2.same s3).imm fun b o e h1 _ _ => k4 b o e h1
    have new : ∀ {b : Addr}, H3 b = none → H b = none := fun {b} q => by
      cases z : H b with
      | none => rfl
      | some o =>
        by_cases hb : b = p
        · subst hb
          rw [s3 _ _ hp2] at q
          cases q
        · rw [s3 _ _ ((e2 b hb).trans (s1 _ _ z))] at q
          cases q
    have ea : act a (.begin ⟨s, g, l != 0, h != 0⟩) = (({ rules := ⟨s, g, l != 0, h != 0⟩ } : Abs), Ks303.no 0) := by
      show (if Ks301.okRules ⟨s, g, l != 0, h != 0⟩ = false then (a, Ks303.no (-22)) else _) = _
      rw [if_neg (by rw [ok]; decide)]
    rw [ea] at k
    refine k H4 lw' ls' ?_ (.inr (new nw)) (.inr (new ns)) fun b o e h1 h2 h3 => k4 b o (s3 _ _ ((e2 b h1).trans (s1 _ _ e))) h1
    refine ⟨.ref ra, [], [Ks301.start], [b], D4, Pd.Inv.begin ok, .cons (B3.imm i34) .nil, fun z => ?_, fun _ => ⟨ra, rfl, (R2.imm s3.imm).imm i34⟩⟩
    have := Pd.okR.mp ok
    have z' : (s != 0) = false := z
    simp at z'
    have h1 : 1 ≤ s := this.1
    omega

/-! ### told -/
theorem act_told_off {a : Abs} (on : a.on = false) (s : Score) : act a (.told s) = (a, Ks303.no (-61)) := by
  simp only [act]
  rw [if_pos on]
theorem act_told_much {a : Abs} (on : a.on = true) {s : Score} (h : Ks301.bounded s = false) : act a (.told s) = (a, Ks303.no (-71)) := by
  simp only [act]
  rw [if_neg (by rw [on]; decide), if_pos h]
theorem act_told_no {a : Abs} (on : a.on = true) {s : Score} (h : Ks301.bounded s = true) (hc : Ks301.can a.rules s = false) : act a (.told s) = (a, Ks303.no (-33)) := by
  simp only [act]
  rw [if_neg (by rw [on]; decide), if_neg (by rw [h]; decide), if_pos hc]
theorem act_told {a : Abs} (on : a.on = true) {s : Score} (h : Ks301.bounded s = true) (hc : Ks301.can a.rules s = true) : act a (.told s) = ({ a with first := s, points := [], score := s }, Ks303.no 0) := by
  simp only [act]
  rw [if_neg (by rw [on]; decide), if_neg (by rw [h]; decide), if_neg (by rw [hc]; decide)]
theorem nv_ints (ns : List Nat) : nv ns = (ns.map Int.ofNat).map V.int := by
  unfold nv
  rw [List.map_map]
  rfl
def sp_Desk_told (T : Tx K mg) : Sp := fun vs H Q _ => ∃ (p lw ls da na : Addr) (a : Abs) (ns : List Nat) (n ga gb pa pb : Nat), vs = [.ref p, .ref da, .ref na] ∧ DeskAt T H p lw ls a ∧ a.on = true ∧ H da = some (.lst (nv ns)) ∧ ns.length = 3 * n ∧ ns.length ≤ 100000 ∧ H na = some (.lst (nv [ga, gb, pa, pb])) ∧
  After T H p lw ls (act a (.told (Ks303Neutral.scoreOf ns [ga, gb, pa, pb]))) Q
noncomputable def tmk_Desk_told_4 (T : Tx K mg) : Tm K mg ["self", "done", "now", "score"] "Desk.told" s_Desk_told T.f_Desk_told 5 ((defBody s_Desk_told).drop 4) :=
  ⟨_, fun cdv A outer s H E hr => pss_end (k := 4) rfl (ps_ret pe_int)⟩
noncomputable def t_Desk_told_4 (T : Tx K mg) : TS := (tmk_Desk_told_4 T).t
noncomputable def tmk_Desk_told_3 (T : Tx K mg) : Tm K mg ["self", "done", "now", "score"] "Desk.told" s_Desk_told T.f_Desk_told 5 ((defBody s_Desk_told).drop 3) :=
  ⟨tSeq _ (t_Desk_told_4 T), fun cdv A outer s H E hr => pss_at (k := 3) rfl (ps_expr (pe_meth (pv 0) T.k_Desk T.m_Desk_go_on_from (ok_Desk_go_on_from T) (hr.mono (by decide)) T.b_Desk_go_on_from .nil pass0 (pa_cons (pv 3) pa_nil)))
    ((tmk_Desk_told_4 T).ok cdv A outer s H E hr)⟩
noncomputable def t_Desk_told_3 (T : Tx K mg) : TS := (tmk_Desk_told_3 T).t
noncomputable def tmk_Desk_told_2 (T : Tx K mg) : Tm K mg ["self", "done", "now", "score"] "Desk.told" s_Desk_told T.f_Desk_told 5 ((defBody s_Desk_told).drop 2) :=
  ⟨tSeq _ (t_Desk_told_3 T), fun cdv A outer s H E hr => pss_at (k := 2) rfl (ps_if (pt_cmpR op_isN (pv 3) pe_non (nomark _)) (pss_one (ps_ret (pe_glob rfl T.v_CANNOT_BE T.r_CANNOT_BE))) pss_nil)
    ((tmk_Desk_told_3 T).ok cdv A outer s H E hr)⟩
noncomputable def t_Desk_told_2 (T : Tx K mg) : TS := (tmk_Desk_told_2 T).t
noncomputable def tmk_Desk_told_1 (T : Tx K mg) : Tm K mg ["self", "done", "now", "score"] "Desk.told" s_Desk_told T.f_Desk_told 5 ((defBody s_Desk_told).drop 1) :=
  ⟨tSeq _ (t_Desk_told_2 T), fun cdv A outer s H E hr => pss_at (k := 1) rfl (ps_set (i := 3) sc_Desk_told.nd rfl (Or.inl rfl) (pe_call (ok_told_score T) (hr.mono (by decide)) rfl T.g_told_score T.F_told_score.kp T.b_told_score .nil pass0 (pa_cons (show PE _ _ (tFld K _ _) from pe_fld (pv 0) rfl) (pa_cons (pv 1) (pa_cons (pv 2) pa_nil)))))
    ((tmk_Desk_told_2 T).ok cdv A outer s H E hr)⟩
noncomputable def t_Desk_told_1 (T : Tx K mg) : TS := (tmk_Desk_told_1 T).t
noncomputable def tmk_Desk_told_0 (T : Tx K mg) : Tm K mg ["self", "done", "now", "score"] "Desk.told" s_Desk_told T.f_Desk_told 5 ((defBody s_Desk_told).drop 0) :=
  ⟨tSeq _ (t_Desk_told_1 T), fun cdv A outer s H E hr => pss_at (k := 0) rfl (ps_if (PW.pt (pw_or (pt_cmpR op_gt (pe_callB (show CallR _ _ (Pr.rLen K) from call_len_seq) (by rfl) T.z_len bt_len (pa_cons (pv 1) pa_nil)) (pe_op op_mul pe_int (pe_glob rfl T.v_MOST_SETS_TOLD T.r_MOST_SETS_TOLD)) (nomark _)) (pw_or1 (pt_cmpR op_gt (pe_callB (show CallR _ _ (rMax K) from cr_max rfl) (by rfl) T.z_max bt_max (pa_cons (pe_op op_cat (pv 1) (pv 2)) pa_nil)) (pe_glob rfl T.v_MOST_TOLD T.r_MOST_TOLD) (nomark _))))) (pss_one (ps_ret (pe_glob rfl T.v_TOLD_TOO_MUCH T.r_TOLD_TOO_MUCH))) pss_nil)
    ((tmk_Desk_told_1 T).ok cdv A outer s H E hr)⟩
noncomputable def t_Desk_told_0 (T : Tx K mg) : TS := (tmk_Desk_told_0 T).t
theorem ok_Desk_told (T : Tx K mg) : FnOk P w K mg base CX0 6 T.f_Desk_told T.d_Desk_told ["self", "done", "now"] (sp_Desk_told T) := by
  refine T.F_Desk_told.ok sc_Desk_told (fun vs H Q E h => ?_) (fun cdv A outer s H vs Q E hr h => ?_)
  · obtain ⟨_, _, _, _, _, _, _, _, _, _, _, _, rfl, _⟩ := h
    rfl
  · obtain ⟨p, lw, ls, da, na, a, ns, n, ga, gb, pa, pb, rfl, D, on, hD, hlen, hmany, hN, k⟩ := h
    refine ⟨t_Desk_told_0 T, (tmk_Desk_told_0 T).ok _ _ _ _ _ _ hr, ?_⟩
    obtain ⟨vr, ws, ts, as, D1, I, hS, hoff, hon⟩ := D.ex
    obtain ⟨ra, rfl, hR⟩ := hon on
    obtain ⟨ok, _, _, _⟩ := I.on on
    have hb := Pd.bounded_iff n ns ga gb pa pb hlen
    refine (exE rfl (ex2 da _ ⟨rfl, .inl (SqL.of hD), ii2 ⟨.inl ⟨by decide, by decide⟩, ii2 (exE rfl ?_)⟩⟩))
    have ln : (nv ns).length = 3 * n := by unfold nv; rw [List.length_map, hlen]
    rw [ln]
    refine ite2 (fun c => ?_) (fun c => ?_)
    · refine iteT (k.stay (act_told_much on ?_) D (Same.refl _))
      rw [← Bool.not_eq_true, hb]
      simp at c
      omega
    · have hn : n ≤ 5 := by simp at c; omega
      refine (exE rfl (exE rfl (ex4 da na _ _ ⟨rfl, rfl, hD, hN, (by rw [ln]; show 3 * n + 4 ≤ sizeLine; rw [sizeLine_eq]; omega), fun q nq => ?_⟩)))
      generalize hU23 : upd _ q _ = H1
      obtain ⟨s1, hq⟩ := new_of nq hU23
      have hq' : H1 q = some (.lst (((ns ++ [ga, gb, pa, pb]).map Int.ofNat).map V.int)) := by
        rw [hq, List.map_append, List.map_append, nv_ints, nv_ints]
      refine (ex2 q _ ⟨rfl, SqL.of hq', (by simp), fun m hm hmax => (ii2 (exE rfl ?_))⟩)
      have bnd : m ≤ 60 ↔ Ks301.bounded (Ks303Neutral.scoreOf ns [ga, gb, pa, pb]) = true := by
        rw [hb]
        constructor
        · intro h60
          have all : ∀ x ∈ ns ++ [ga, gb, pa, pb], x ≤ 60 := fun x hx => by
            have := hmax (Int.ofNat x) (List.mem_map_of_mem hx)
            have e : Int.ofNat x = (x : Int) := rfl
            omega
          exact ⟨hn, fun x hx => all x (List.mem_append_left _ hx), all ga (by simp), all gb (by simp), all pa (by simp), all pb (by simp)⟩
        · rintro ⟨_, h1, h2, h3, h4, h5⟩
          obtain ⟨x, hx, rfl⟩ := List.mem_map.mp hm
          have e : Int.ofNat x = (x : Int) := rfl
          have : x ≤ 60 := by
            rcases List.mem_append.mp hx with hx | hx
            · exact h1 x hx
            · simp at hx
              omega
          omega
      refine ite2 (fun c1 => ?_) (fun c1 => ?_)
      · refine k.stay (act_told_much on ?_) D s1
        rw [← Bool.not_eq_true, ← bnd]
        simp at c1
        omega
      · have hbd : Ks301.bounded (Ks303Neutral.scoreOf ns [ga, gb, pa, pb]) = true := bnd.mp (by simp at c1; omega)
        refine ((exE rfl ((D1.same s1).rules (exE rfl (exE rfl ⟨ra, da, na, a.rules, ns, ex5 n ga gb pa pb ⟨rfl, hR.imm s1.imm, ok, s1 _ _ hD, hlen, hn, s1 _ _ hN, fun H2 s2 hc => ?_, fun b H2 s2 hc B2 => ?_⟩⟩)))))
        · exact (exE rfl ⟨rfl, exE rfl (iteT (k.stay (act_told_no on hbd hc) D (s1.trans s2)))⟩)
        · refine (exE rfl ⟨rfl, exE rfl (iteF ?_)⟩)
          have s12 := s1.trans s2
          have D2 := D1.same s12
          obtain ⟨dx, hp2⟩ := D2.obj
          refine (exE rfl (ex3 p dx _ ⟨rfl, hp2, deskFs_no _ _ _ (by decide +kernel) (by decide +kernel) (by decide +kernel), exE rfl (ex7 p lw ls _ _ _ _ ⟨rfl, D2, fun H4 lw' ls' D4 nw ns' k4 => ?_⟩)⟩))
          have i24 : Imm H2 H4 := D2.imm fun b o e h1 _ _ => k4 b o e h1
          have ea := act_told on hbd hc
          rw [ea] at k
          refine k H4 lw' ls' ?_ (.inr (s12.free nw)) (.inr (s12.free ns')) fun b o e h1 _ _ => k4 b o (s12 _ _ e) h1
          exact ⟨.ref ra, [], [_], [b], D4, I.told on hc hbd, .cons (B2.imm i24) .nil, fun z => (by rw [show ({ a with first := _, points := [], score := _ } : Abs).on = a.on from rfl, on] at z; cases z), fun _ => ⟨ra, rfl, (hR.imm s12.imm).imm i24⟩⟩
end
end Pt

end
section
set_option Elab.async false
set_option linter.all false
set_option maxRecDepth 100000
set_option maxHeartbeats 2000000
namespace Pt
open PySem PySem.Spec PyProof.Rows L2
open Ks301 (Rules Score)
open Ks303 (Abs act)
theorem last_of (as : List Addr) (sa : Addr) : atI ((as ++ [sa]).map V.ref) (-1) = some (.ref sa) := by
  rw [List.map_append]
  exact atI_last _ _
theorem wv_snoc (ws : List Bool) (x : Bool) : wv ws ++ [.int (who x)] = wv (ws ++ [x]) := by
  unfold wv
  rw [List.map_append]
  rfl
theorem who_nat {n : Nat} (h : ¬ 1 < n) : (n : Int) = who (n == 0) := by
  match n, h with
  | 0, _ => rfl
  | 1, _ => rfl
  | n + 2, h => omega
theorem cut_from {xs : List V} {n : Nat} (h : n ≤ xs.length) : cutV xs (some (n : Int)) none = xs.drop n := by
  unfold cutV
  rw [HT.sIx_none, HT.sIx_nat, Nat.min_eq_left h]
  exact List.take_of_length_le (by rw [List.length_drop]; exact Nat.le_refl _)
theorem cut_to {xs : List V} {n : Nat} (h : n ≤ xs.length) : cutV xs none (some (n : Int)) = xs.take n := by
  unfold cutV
  rw [HT.sIx_none, HT.sIx_nat, Nat.min_eq_left h, List.drop_zero, Nat.sub_zero]
theorem cut_mid {xs : List V} {m n : Nat} (h : m ≤ n) (hn : n ≤ xs.length) : cutV xs (some (m : Int)) (some (n : Int)) = (xs.drop m).take (n - m) := by
  unfold cutV
  rw [HT.sIx_nat, HT.sIx_nat, Nat.min_eq_left hn, Nat.min_eq_left (Nat.le_trans h hn)]
section
variable {P : Program} {w : World} {K : PySem.W.Frag} {mg : Str → Option Value} {base : Heap}
theorem Wf_done {r : Rules} {s : Score} (W : Pd.Wf r s) : s.done.length ≤ 1000 := by
  have h1 := W.wa
  have h2 := W.wb
  have h3 := W.len
  have h4 := Pd.okR.mp W.ok
  omega
/-! ### point -/
def sp_Desk_point (T : Tx K mg) : Sp := fun vs H Q _ => ∃ (p lw ls : Addr) (a : Abs) (n : Nat), vs = [.ref p, .int n] ∧ DeskAt T H p lw ls a ∧ a.on = true ∧ After T H p lw ls (act a (.point n)) Q
noncomputable def tmk_Desk_point_5 (T : Tx K mg) : Tm K mg ["self", "who"] "Desk.point" s_Desk_point T.f_Desk_point 5 ((defBody s_Desk_point).drop 5) :=
  ⟨_, fun cdv A outer s H E hr => pss_end (k := 5) rfl (ps_ret (pe_ifExp (pt_val (pe_call (ok_match_over T) (hr.mono (by decide)) rfl T.g_match_over T.F_match_over.kp T.b_match_over .nil pass0 (pa_cons (show PE _ _ (tFld K _ _) from pe_fld (pv 0) rfl) (pa_cons (pe_ix (show IxR _ (rIxL K) from ix_list) (show PE _ _ (tFld K _ _) from pe_fld (pv 0) rfl) (pe_un un_neg pe_int) (fun _ _ => rfl)) pa_nil)))) pe_int pe_int))⟩
noncomputable def t_Desk_point_5 (T : Tx K mg) : TS := (tmk_Desk_point_5 T).t
noncomputable def tmk_Desk_point_4 (T : Tx K mg) : Tm K mg ["self", "who"] "Desk.point" s_Desk_point T.f_Desk_point 5 ((defBody s_Desk_point).drop 4) :=
  ⟨tSeq _ (t_Desk_point_5 T), fun cdv A outer s H E hr => pss_at (k := 4) rfl (ps_expr (show PE _ _ (tBM K _ _ _ _) from pe_bm PySem.F.plainAttrs_list PySem.F.slot_list_append PySem.F.type_list_append mt_append (show PE _ _ (tFld K _ _) from pe_fld (pv 0) rfl) (pa_cons (pe_call (ok_after_point T) (hr.mono (by decide)) rfl T.g_after_point T.F_after_point.kp T.b_after_point .nil pass0 (pa_cons (show PE _ _ (tFld K _ _) from pe_fld (pv 0) rfl) (pa_cons (pe_ix (show IxR _ (rIxL K) from ix_list) (show PE _ _ (tFld K _ _) from pe_fld (pv 0) rfl) (pe_un un_neg pe_int) (fun _ _ => rfl)) (pa_cons (pv 1) pa_nil)))) pa_nil)))
    ((tmk_Desk_point_5 T).ok cdv A outer s H E hr)⟩
noncomputable def t_Desk_point_4 (T : Tx K mg) : TS := (tmk_Desk_point_4 T).t
noncomputable def tmk_Desk_point_3 (T : Tx K mg) : Tm K mg ["self", "who"] "Desk.point" s_Desk_point T.f_Desk_point 5 ((defBody s_Desk_point).drop 3) :=
  ⟨tSeq _ (t_Desk_point_4 T), fun cdv A outer s H E hr => pss_at (k := 3) rfl (ps_expr (show PE _ _ (tBM K _ _ _ _) from pe_bm PySem.F.plainAttrs_list PySem.F.slot_list_append PySem.F.type_list_append mt_append (show PE _ _ (tFld K _ _) from pe_fld (pv 0) rfl) (pa_cons (pv 1) pa_nil)))
    ((tmk_Desk_point_4 T).ok cdv A outer s H E hr)⟩
noncomputable def t_Desk_point_3 (T : Tx K mg) : TS := (tmk_Desk_point_3 T).t
noncomputable def tmk_Desk_point_2 (T : Tx K mg) : Tm K mg ["self", "who"] "Desk.point" s_Desk_point T.f_Desk_point 5 ((defBody s_Desk_point).drop 2) :=
  ⟨tSeq _ (t_Desk_point_3 T), fun cdv A outer s H E hr => pss_at (k := 2) rfl (ps_if (pt_cmpR op_ge (pe_callB (show CallR _ _ (Pr.rLen K) from call_len_seq) (by rfl) T.z_len bt_len (pa_cons (show PE _ _ (tFld K _ _) from pe_fld (pv 0) rfl) pa_nil)) (pe_glob rfl T.v_MOST_POINTS T.r_MOST_POINTS) (nomark _)) (pss_one (ps_ret (pe_glob rfl T.v_TOO_MANY_POINTS T.r_TOO_MANY_POINTS))) pss_nil)
    ((tmk_Desk_point_3 T).ok cdv A outer s H E hr)⟩
noncomputable def t_Desk_point_2 (T : Tx K mg) : TS := (tmk_Desk_point_2 T).t
noncomputable def tmk_Desk_point_1 (T : Tx K mg) : Tm K mg ["self", "who"] "Desk.point" s_Desk_point T.f_Desk_point 5 ((defBody s_Desk_point).drop 1) :=
  ⟨tSeq _ (t_Desk_point_2 T), fun cdv A outer s H E hr => pss_at (k := 1) rfl (ps_if (pt_val (pe_call (ok_match_over T) (hr.mono (by decide)) rfl T.g_match_over T.F_match_over.kp T.b_match_over .nil pass0 (pa_cons (show PE _ _ (tFld K _ _) from pe_fld (pv 0) rfl) (pa_cons (pe_ix (show IxR _ (rIxL K) from ix_list) (show PE _ _ (tFld K _ _) from pe_fld (pv 0) rfl) (pe_un un_neg pe_int) (fun _ _ => rfl)) pa_nil)))) (pss_one (ps_ret (pe_glob rfl T.v_MATCH_IS_OVER T.r_MATCH_IS_OVER))) pss_nil)
    ((tmk_Desk_point_2 T).ok cdv A outer s H E hr)⟩
noncomputable def t_Desk_point_1 (T : Tx K mg) : TS := (tmk_Desk_point_1 T).t
noncomputable def tmk_Desk_point_0 (T : Tx K mg) : Tm K mg ["self", "who"] "Desk.point" s_Desk_point T.f_Desk_point 5 ((defBody s_Desk_point).drop 0) :=
  ⟨tSeq _ (t_Desk_point_1 T), fun cdv A outer s H E hr => pss_at (k := 0) rfl (ps_if (pt_cmpR op_gt (pv 1) pe_int (nomark _)) (pss_one (ps_ret (pe_glob rfl T.v_OUT_OF_RANGE T.r_OUT_OF_RANGE))) pss_nil)
    ((tmk_Desk_point_1 T).ok cdv A outer s H E hr)⟩
noncomputable def t_Desk_point_0 (T : Tx K mg) : TS := (tmk_Desk_point_0 T).t
theorem ok_Desk_point (T : Tx K mg) : FnOk P w K mg base CX0 6 T.f_Desk_point T.d_Desk_point ["self", "who"] (sp_Desk_point T) := by
  refine T.F_Desk_point.ok sc_Desk_point (fun vs H Q E h => ?_) (fun cdv A outer s H vs Q E hr h => ?_)
  · obtain ⟨_, _, _, _, _, rfl, _⟩ := h
    rfl
  · obtain ⟨p, lw, ls, a, n, rfl, D, on, k⟩ := h
    refine ⟨t_Desk_point_0 T, (tmk_Desk_point_0 T).ok _ _ _ _ _ _ hr, ?_⟩
    obtain ⟨vr, ws, ts, as, D1, I, hS, hoff, hon⟩ := D.ex
    obtain ⟨ra, rfl, hR⟩ := hon on
    refine (exE rfl (ii2 (exE rfl ?_)))
    refine ite2 (fun c => k.stay (Pd.act_point_who on n (by simp at c; omega)) D (Same.refl _)) (fun c => ?_)
    have hn : ¬ 1 < n := by simp at c; omega
    rw [who_nat hn]
    have W := I.wf on
    obtain ⟨ts', ets, htl⟩ := I.split on
    rw [ets] at hS
    obtain ⟨as', sa, eas, hS', hA⟩ := paired_last hS
    subst eas
    refine ((exE rfl (D1.rules ((exE rfl (D1.scores (exE rfl (ixv (SqL.of D1.sco) (last_of as' sa) (ex4 ra sa a.rules a.score ⟨rfl, hR, hA, W.wa, W.wb, exE rfl ?_⟩)))))))))
    refine ite2 (fun co => k.stay (Pd.act_point_over on n hn co) D (Same.refl _)) (fun co => ?_)
    have ho : Ks301.over a.rules a.score.done = false := by simpa using co
    refine ((exE rfl (D1.winners (ex2 lw _ ⟨rfl, .inl (SqL.of D1.win), ii2 (exE rfl ?_)⟩))))
    rw [wv_len]
    refine ite2 (fun cm => k.stay (Pd.act_point_many I on n hn ho (by simp at cm; omega)) D (Same.refl _)) (fun cm => ?_)
    have hm : ws.length < 1000 := by simp at cm; omega
    generalize hx : (n == 0) = x at *
    refine ((exE rfl (D1.winners ⟨.inl ⟨rfl, _, SqL.of D1.win⟩, exE rfl (ex3 lw _ _ ⟨rfl, rfl, D1.win, (by rw [wv_len, sizeLine_eq]; omega), ?_⟩)⟩)))
    rw [wv_snoc]
    have D2 := D1.put_win (wv (ws ++ [x]))
    have k2 : Keeps p lw ls H (upd H lw (.lst (wv (ws ++ [x])))) := Keeps.upd_w
    have i2 := D1.imm k2
    generalize upd H lw (.lst (wv (ws ++ [x]))) = H2 at *
    refine ((exE rfl (D2.scores ⟨.inl ⟨rfl, _, SqL.of D2.sco⟩, (exE rfl (D2.rules ((exE rfl (D2.scores (exE rfl (ixv (SqL.of D2.sco) (last_of as' sa) (exE rfl (ex5 ra sa a.rules a.score x ⟨rfl, hR.imm i2, hA.imm i2, Wf_done W, fun b H3 s3 hB => ?_⟩)))))))))⟩)))
    have D3 := D2.same s3
    have htl2 : as'.length = ws.length := by
      have := Paired.length hS'
      omega
    refine (ex3 ls _ _ ⟨rfl, rfl, D3.sco, (by rw [List.length_map, List.length_append, htl2, sizeLine_eq]; show ws.length + 1 < 2 ^ 24; omega), ?_⟩)
    have e4 : (as' ++ [sa]).map V.ref ++ [V.ref b] = ((as' ++ [sa]) ++ [b]).map V.ref := by rw [List.map_append (l₁ := as' ++ [sa])]; rfl
    rw [e4]
    have D4 := D3.put_sco (((as' ++ [sa]) ++ [b]).map V.ref)
    have k4 : Keeps p lw ls H3 (upd H3 ls (.lst (((as' ++ [sa]) ++ [b]).map V.ref))) := Keeps.upd_s
    have i4 := D3.imm k4
    generalize upd H3 ls (.lst (((as' ++ [sa]) ++ [b]).map V.ref)) = H4 at *
    have W' := Pd.wf_aft W ho x
    have i04 := (i2.trans s3.imm).trans i4
    refine ((exE rfl (D4.rules ((exE rfl (D4.scores (exE rfl (ixv (SqL.of D4.sco) (last_of (as' ++ [sa]) b) (ex4 ra b a.rules _ ⟨rfl, hR.imm i04, hB.imm i4, W'.wa, W'.wb, exE rfl ?_⟩)))))))))
    have ea := Pd.act_point I on n hn ho hm
    rw [hx] at ea
    rw [ea] at k
    have fin := k H4 lw ls ⟨.ref ra, ws ++ [x], ts ++ [Pd.aft a.rules a.score x], (as' ++ [sa]) ++ [b], D4, I.point on ho hm x, paired_snoc (hB.imm i4) (by rw [ets]; exact paired_imp (fun _ _ q => ScoreAt.imm i04 q) hS), fun z => absurd (show a.on = false from z) (by rw [on]; decide), fun _ => ⟨ra, rfl, hR.imm i04⟩⟩ (.inl rfl) (.inl rfl) ((k2.trans s3.keeps).trans k4)
    cases co2 : Ks301.over a.rules (Pd.aft a.rules a.score x).done with
    | true =>
      rw [co2] at fin
      exact iteT fin
    | false =>
      rw [co2] at fin
      exact iteF fin
/-! ### back -/
def sp_Desk_back (T : Tx K mg) : Sp := fun vs H Q _ => ∃ (p lw ls : Addr) (a : Abs), vs = [.ref p] ∧ DeskAt T H p lw ls a ∧ After T H p lw ls (act a .back) Q
noncomputable def tmk_Desk_back_3 (T : Tx K mg) : Tm K mg ["self"] "Desk.back" s_Desk_back T.f_Desk_back 0 ((defBody s_Desk_back).drop 3) :=
  ⟨_, fun cdv A outer s H E hr => pss_end (k := 3) rfl (ps_ret (pe_callB (show CallR _ _ (Pr.rLen K) from call_len_seq) (by rfl) T.z_len bt_len (pa_cons (show PE _ _ (tFld K _ _) from pe_fld (pv 0) rfl) pa_nil)))⟩
noncomputable def t_Desk_back_3 (T : Tx K mg) : TS := (tmk_Desk_back_3 T).t
noncomputable def tmk_Desk_back_2 (T : Tx K mg) : Tm K mg ["self"] "Desk.back" s_Desk_back T.f_Desk_back 0 ((defBody s_Desk_back).drop 2) :=
  ⟨tSeq _ (t_Desk_back_3 T), fun cdv A outer s H E hr => pss_at (k := 2) rfl (ps_expr (show PE _ _ (tBM0 K _ _ _) from pe_bm0 PySem.F.plainAttrs_list PySem.F.slot_list_pop PySem.F.type_list_pop mt_pop (show PE _ _ (tFld K _ _) from pe_fld (pv 0) rfl)))
    ((tmk_Desk_back_3 T).ok cdv A outer s H E hr)⟩
noncomputable def t_Desk_back_2 (T : Tx K mg) : TS := (tmk_Desk_back_2 T).t
noncomputable def tmk_Desk_back_1 (T : Tx K mg) : Tm K mg ["self"] "Desk.back" s_Desk_back T.f_Desk_back 0 ((defBody s_Desk_back).drop 1) :=
  ⟨tSeq _ (t_Desk_back_2 T), fun cdv A outer s H E hr => pss_at (k := 1) rfl (ps_expr (show PE _ _ (tBM0 K _ _ _) from pe_bm0 PySem.F.plainAttrs_list PySem.F.slot_list_pop PySem.F.type_list_pop mt_pop (show PE _ _ (tFld K _ _) from pe_fld (pv 0) rfl)))
    ((tmk_Desk_back_2 T).ok cdv A outer s H E hr)⟩
noncomputable def t_Desk_back_1 (T : Tx K mg) : TS := (tmk_Desk_back_1 T).t
noncomputable def tmk_Desk_back_0 (T : Tx K mg) : Tm K mg ["self"] "Desk.back" s_Desk_back T.f_Desk_back 0 ((defBody s_Desk_back).drop 0) :=
  ⟨tSeq _ (t_Desk_back_1 T), fun cdv A outer s H E hr => pss_at (k := 0) rfl (ps_if (pt_cmpR op_eq (pe_callB (show CallR _ _ (Pr.rLen K) from call_len_seq) (by rfl) T.z_len bt_len (pa_cons (show PE _ _ (tFld K _ _) from pe_fld (pv 0) rfl) pa_nil)) pe_int (nomark _)) (pss_one (ps_ret (pe_glob rfl T.v_NO_SUCH_POINT T.r_NO_SUCH_POINT))) pss_nil)
    ((tmk_Desk_back_1 T).ok cdv A outer s H E hr)⟩
noncomputable def t_Desk_back_0 (T : Tx K mg) : TS := (tmk_Desk_back_0 T).t
theorem ok_Desk_back (T : Tx K mg) : FnOk P w K mg base CX0 1 T.f_Desk_back T.d_Desk_back ["self"] (sp_Desk_back T) := by
  refine T.F_Desk_back.ok sc_Desk_back (fun vs H Q E h => ?_) (fun cdv A outer s H vs Q E hr h => ?_)
  · obtain ⟨_, _, _, _, rfl, _⟩ := h
    rfl
  · obtain ⟨p, lw, ls, a, rfl, D, k⟩ := h
    refine ⟨t_Desk_back_0 T, (tmk_Desk_back_0 T).ok _ _ _ _ _ _ hr, ?_⟩
    obtain ⟨vr, ws, ts, as, D1, I, hS, hoff, hon⟩ := D.ex
    refine ((exE rfl (D1.winners (ex2 lw _ ⟨rfl, .inl (SqL.of D1.win), rfl, exE rfl ?_⟩))))
    rcases nil_or_snoc ws with rfl | ⟨ws', x, rfl⟩
    · exact iteT (k.stay (Pd.act_back_none I) D (Same.refl _))
    · have e0 : decide (V.int ((wv (ws' ++ [x])).length : Int) = V.int 0) = false := decide_eq_false (by
        intro z
        rw [wv_len, List.length_append] at z
        have z' := V.int.inj z
        simp at z'
        omega)
      rw [e0]
      refine iteF ?_
      obtain ⟨a', ts', u, v, ets, ea, I', er, es⟩ := Pd.act_back I
      have on := I.on_of (by simp)
      obtain ⟨ra, rfl, hR⟩ := hon on
      subst ets
      have e5 : ts' ++ [u, v] = (ts' ++ [u]) ++ [v] := by simp
      rw [e5] at hS
      obtain ⟨as', sb, rfl, hS', hB⟩ := paired_last hS
      refine ((exE rfl (D1.winners ⟨.inl ⟨rfl, _, SqL.of D1.win⟩, lw, _, .int (who x), rfl, rfl, D1.win, ?_, ?_⟩)))
      · rw [← wv_snoc]
        simp
      have ew : (wv (ws' ++ [x])).dropLast = wv ws' := by rw [← wv_snoc]; simp
      rw [ew]
      have D2 := D1.put_win (wv ws')
      have k2 : Keeps p lw ls H (upd H lw (.lst (wv ws'))) := Keeps.upd_w
      have i2 := D1.imm k2
      generalize upd H lw (.lst (wv ws')) = H2 at *
      refine ((exE rfl (D2.scores ⟨.inl ⟨rfl, _, SqL.of D2.sco⟩, ls, _, .ref sb, rfl, rfl, D2.sco, ?_, ?_⟩)))
      · rw [List.map_append]
        simp
      have el : ((as' ++ [sb]).map V.ref).dropLast = as'.map V.ref := by rw [List.map_append]; simp
      rw [el]
      have D3 := D2.put_sco (as'.map V.ref)
      have k3 : Keeps p lw ls H2 (upd H2 ls (.lst (as'.map V.ref))) := Keeps.upd_s
      have i3 := D2.imm k3
      generalize upd H2 ls (.lst (as'.map V.ref)) = H3 at *
      refine ((exE rfl (D3.winners (ex2 lw _ ⟨rfl, .inl (SqL.of D3.win), ?_⟩))))
      rw [wv_len]
      rw [ea] at k
      have i03 := i2.trans i3
      have ron : a'.on = true := by unfold Abs.on; rw [er]; exact on
      exact k H3 lw ls ⟨.ref ra, ws', ts' ++ [u], as', D3, I', paired_imp (fun _ _ q => ScoreAt.imm i03 q) hS', fun z => (by rw [ron] at z; cases z), fun _ => ⟨ra, rfl, by rw [er]; exact hR.imm i03⟩⟩ (.inl rfl) (.inl rfl) (k2.trans k3)
end
end Pt

end
section
set_option Elab.async false
set_option linter.all false
set_option maxRecDepth 100000
set_option maxHeartbeats 2000000
namespace Pt
open PySem PySem.Spec PyProof.Rows L2
open Ks301 (Rules Score)
open Ks303 (Abs act)
theorem wv_get {ws : List Bool} {i : Nat} {x : Bool} (h : ws[i]? = some x) : (wv ws)[i]? = some (.int (who x)) := by
  unfold wv
  rw [List.getElem?_map, h]
  rfl
theorem wv_drop (ws : List Bool) (n : Nat) : (wv ws).drop n = wv (ws.drop n) := by
  unfold wv
  rw [List.map_drop]
theorem wv_take (ws : List Bool) (n : Nat) : (wv ws).take n = wv (ws.take n) := by
  unfold wv
  rw [List.map_take]
theorem who_not (x : Bool) : (1 : Int) - who x = who (!x) := by cases x <;> rfl
section
variable {P : Program} {w : World} {K : PySem.W.Frag} {mg : Str → Option Value} {base : Heap}
def sp_Desk_right (T : Tx K mg) : Sp := fun vs H Q _ => ∃ (p lw ls : Addr) (a : Abs) (n : Nat), vs = [.ref p, .int n] ∧ DeskAt T H p lw ls a ∧ After T H p lw ls (act a (.right n)) Q
noncomputable def tmk_Desk_right_7 (T : Tx K mg) : Tm K mg ["self", "k", "place", "later", "scores", "who"] "Desk.right" s_Desk_right T.f_Desk_right 5 ((defBody s_Desk_right).drop 7) :=
  ⟨_, fun cdv A outer s H E hr => pss_end (k := 7) rfl (ps_ret pe_int)⟩
noncomputable def t_Desk_right_7 (T : Tx K mg) : TS := (tmk_Desk_right_7 T).t
noncomputable def tmk_Desk_right_6 (T : Tx K mg) : Tm K mg ["self", "k", "place", "later", "scores", "who"] "Desk.right" s_Desk_right T.f_Desk_right 5 ((defBody s_Desk_right).drop 6) :=
  ⟨tSeq _ (t_Desk_right_7 T), fun cdv A outer s H E hr => pss_at (k := 6) rfl (show PS _ _ (sFld K _ _ _) from ps_fld (pv 0) (pv 4) rfl)
    ((tmk_Desk_right_7 T).ok cdv A outer s H E hr)⟩
noncomputable def t_Desk_right_6 (T : Tx K mg) : TS := (tmk_Desk_right_6 T).t
noncomputable def tmk_Desk_right_5 (T : Tx K mg) : Tm K mg ["self", "k", "place", "later", "scores", "who"] "Desk.right" s_Desk_right T.f_Desk_right 5 ((defBody s_Desk_right).drop 5) :=
  ⟨tSeq _ (t_Desk_right_6 T), fun cdv A outer s H E hr => pss_at (k := 5) rfl (show PS _ _ (sFld K _ _ _) from ps_fld (pv 0) (pe_op op_cat (pe_slice (show SlR _ (rSlL K) from sl_list) (show PE _ _ (tFld K _ _) from pe_fld (pv 0) rfl) po_none (po_some (pv 2))) (pv 3)) rfl)
    ((tmk_Desk_right_6 T).ok cdv A outer s H E hr)⟩
noncomputable def t_Desk_right_5 (T : Tx K mg) : TS := (tmk_Desk_right_5 T).t
noncomputable def tmk_Desk_right_4 (T : Tx K mg) : Tm K mg ["self", "k", "place", "later", "scores", "who"] "Desk.right" s_Desk_right T.f_Desk_right 5 ((defBody s_Desk_right).drop 4) :=
  ⟨tSeq _ (t_Desk_right_5 T), fun cdv A outer s H E hr => pss_at (k := 4) rfl (ps_for PassesOwn.never rfl (show PI _ _ _ (iList K _) from pi_list (pv 3)) (pg_name (i := 5) sc_Desk_right.nd rfl (Or.inl rfl)) (pss_cons (ps_if (pt_val (pe_call (ok_match_over T) (hr.mono (by decide)) rfl T.g_match_over T.F_match_over.kp T.b_match_over .nil pass0 (pa_cons (show PE _ _ (tFld K _ _) from pe_fld (pv 0) rfl) (pa_cons (pe_ix (show IxR _ (rIxL K) from ix_list) (pv 4) (pe_un un_neg pe_int) (fun _ _ => rfl)) pa_nil)))) (pss_one (ps_ret (pe_glob rfl T.v_CANNOT_BE T.r_CANNOT_BE))) pss_nil)
      (pss_one (ps_expr (show PE _ _ (tBM K _ _ _ _) from pe_bm PySem.F.plainAttrs_list PySem.F.slot_list_append PySem.F.type_list_append mt_append (pv 4) (pa_cons (pe_call (ok_after_point T) (hr.mono (by decide)) rfl T.g_after_point T.F_after_point.kp T.b_after_point .nil pass0 (pa_cons (show PE _ _ (tFld K _ _) from pe_fld (pv 0) rfl) (pa_cons (pe_ix (show IxR _ (rIxL K) from ix_list) (pv 4) (pe_un un_neg pe_int) (fun _ _ => rfl)) (pa_cons (pv 5) pa_nil)))) pa_nil))))))
    ((tmk_Desk_right_5 T).ok cdv A outer s H E hr)⟩
noncomputable def t_Desk_right_4 (T : Tx K mg) : TS := (tmk_Desk_right_4 T).t
noncomputable def tmk_Desk_right_3 (T : Tx K mg) : Tm K mg ["self", "k", "place", "later", "scores", "who"] "Desk.right" s_Desk_right T.f_Desk_right 5 ((defBody s_Desk_right).drop 3) :=
  ⟨tSeq _ (t_Desk_right_4 T), fun cdv A outer s H E hr => pss_at (k := 3) rfl (ps_set (i := 4) sc_Desk_right.nd rfl (Or.inl rfl) (pe_slice (show SlR _ (rSlL K) from sl_list) (show PE _ _ (tFld K _ _) from pe_fld (pv 0) rfl) po_none (po_some (pe_op op_add (pv 2) pe_int))))
    ((tmk_Desk_right_4 T).ok cdv A outer s H E hr)⟩
noncomputable def t_Desk_right_3 (T : Tx K mg) : TS := (tmk_Desk_right_3 T).t
noncomputable def tmk_Desk_right_2 (T : Tx K mg) : Tm K mg ["self", "k", "place", "later", "scores", "who"] "Desk.right" s_Desk_right T.f_Desk_right 5 ((defBody s_Desk_right).drop 2) :=
  ⟨tSeq _ (t_Desk_right_3 T), fun cdv A outer s H E hr => pss_at (k := 2) rfl (ps_set (i := 3) sc_Desk_right.nd rfl (Or.inl rfl) (pe_op op_cat (pe_lst (pa_cons (pe_op op_sub pe_int (pe_ix (show IxR _ (rIxL K) from ix_list) (show PE _ _ (tFld K _ _) from pe_fld (pv 0) rfl) (pv 2) (fun _ _ => rfl))) pa_nil)) (pe_slice (show SlR _ (rSlL K) from sl_list) (show PE _ _ (tFld K _ _) from pe_fld (pv 0) rfl) (po_some (pe_op op_add (pv 2) pe_int)) po_none)))
    ((tmk_Desk_right_3 T).ok cdv A outer s H E hr)⟩
noncomputable def t_Desk_right_2 (T : Tx K mg) : TS := (tmk_Desk_right_2 T).t
noncomputable def tmk_Desk_right_1 (T : Tx K mg) : Tm K mg ["self", "k", "place", "later", "scores", "who"] "Desk.right" s_Desk_right T.f_Desk_right 5 ((defBody s_Desk_right).drop 1) :=
  ⟨tSeq _ (t_Desk_right_2 T), fun cdv A outer s H E hr => pss_at (k := 1) rfl (ps_set (i := 2) sc_Desk_right.nd rfl (Or.inl rfl) (pe_op op_sub (pe_op op_sub (pe_callB (show CallR _ _ (Pr.rLen K) from call_len_seq) (by rfl) T.z_len bt_len (pa_cons (show PE _ _ (tFld K _ _) from pe_fld (pv 0) rfl) pa_nil)) pe_int) (pv 1)))
    ((tmk_Desk_right_2 T).ok cdv A outer s H E hr)⟩
noncomputable def t_Desk_right_1 (T : Tx K mg) : TS := (tmk_Desk_right_1 T).t
noncomputable def tmk_Desk_right_0 (T : Tx K mg) : Tm K mg ["self", "k", "place", "later", "scores", "who"] "Desk.right" s_Desk_right T.f_Desk_right 5 ((defBody s_Desk_right).drop 0) :=
  ⟨tSeq _ (t_Desk_right_1 T), fun cdv A outer s H E hr => pss_at (k := 0) rfl (ps_if (pt_cmpR op_le (pe_callB (show CallR _ _ (Pr.rLen K) from call_len_seq) (by rfl) T.z_len bt_len (pa_cons (show PE _ _ (tFld K _ _) from pe_fld (pv 0) rfl) pa_nil)) (pv 1) (nomark _)) (pss_one (ps_ret (pe_glob rfl T.v_NO_SUCH_POINT T.r_NO_SUCH_POINT))) pss_nil)
    ((tmk_Desk_right_1 T).ok cdv A outer s H E hr)⟩
noncomputable def t_Desk_right_0 (T : Tx K mg) : TS := (tmk_Desk_right_0 T).t
theorem ok_Desk_right (T : Tx K mg) : FnOk P w K mg base CX0 6 T.f_Desk_right T.d_Desk_right ["self", "k"] (sp_Desk_right T) := by
  refine T.F_Desk_right.ok sc_Desk_right (fun vs H Q E h => ?_) (fun cdv A outer s H vs Q E hr h => ?_)
  · obtain ⟨_, _, _, _, _, rfl, _⟩ := h
    rfl
  · obtain ⟨p, lw, ls, a, n, rfl, D, k⟩ := h
    refine ⟨t_Desk_right_0 T, (tmk_Desk_right_0 T).ok _ _ _ _ _ _ hr, ?_⟩
    obtain ⟨vr, ws, ts, as, D1, I, hS, hoff, hon⟩ := D.ex
    refine ((exE rfl (D1.winners (ex2 lw _ ⟨rfl, .inl (SqL.of D1.win), exE rfl (ii2 (exE rfl ?_))⟩))))
    rw [wv_len]
    refine ite2 (fun c => k.stay (Pd.act_right_none I n (by simp at c; omega)) D (Same.refl _)) (fun c => ?_)
    have hk : n < ws.length := by simp at c; omega
    have on := I.on_of (fun z => by rw [z] at hk; simp at hk)
    obtain ⟨ra, rfl, hR⟩ := hon on
    obtain ⟨ok, W0, Tr, _⟩ := I.on on
    have hfew := I.few
    have htl := Tr.length
    have hal := Paired.length hS
    -- place
    refine ((exE rfl (D1.winners (ex2 lw _ ⟨rfl, .inl (SqL.of D1.win), ii2 (exE rfl (ii2 ?_))⟩))))
    have epl : ((wv ws).length : Int) - 1 - (n : Int) = ((ws.length - 1 - n : Nat) : Int) := by rw [wv_len]; omega
    dsimp only
    rw [epl]
    generalize hpl : ws.length - 1 - n = pl at *
    have hpl2 : pl < ws.length := by omega
    obtain ⟨x, hx⟩ : ∃ x, ws[pl]? = some x := ⟨_, List.getElem?_eq_getElem hpl2⟩
    have eplus : (pl : Int) + 1 = ((pl + 1 : Nat) : Int) := by omega
    -- later
    refine ((exE rfl (D1.winners (exE rfl (ixv (SqL.of D1.win) (at_of (j := pl) rfl (wv_get hx)) (ii2 ⟨(sz rfl), fun q1 n1 => ?_⟩))))))
    generalize hU24 : upd _ q1 _ = H1
    obtain ⟨s1, e1⟩ := new_of n1 hU24
    have D2 := D1.same s1
    refine ((exE rfl (D2.winners (exE rfl (ii2 (exE rfl (ex2 lw _ ⟨rfl, SqL.of D2.win, fun q2 n2 => ?_⟩)))))))
    generalize hU25 : upd _ q2 _ = H2
    obtain ⟨s2, e2⟩ := new_of n2 hU25
    rw [eplus, cut_from (by rw [wv_len]; omega), wv_drop] at e2
    have e1 : H1 q1 = some (.lst [.int (1 - who x)]) := e1
    rw [who_not] at e1
    refine (ex4 q1 q2 _ _ ⟨rfl, rfl, s2 _ _ e1, e2, (by rw [wv_len, List.length_drop, sizeLine_eq]; show 1 + _ ≤ 2 ^ 24; omega), fun lt n3 => ?_⟩)
    generalize hU26 : upd _ lt _ = H3
    obtain ⟨s3, e3⟩ := new_of n3 hU26
    have eL : [V.int (who !x)] ++ wv (ws.drop (pl + 1)) = wv ((!x) :: ws.drop (pl + 1)) := rfl
    rw [eL] at e3
    have s03 := (s1.trans s2).trans s3
    have D3 := D1.same s03
    -- scores
    refine ((exE rfl (D3.scores (exE rfl (ii2 (exE rfl (ex2 ls _ ⟨rfl, SqL.of D3.sco, fun sc n4 => ?_⟩)))))))
    generalize hU27 : upd _ sc _ = H4
    obtain ⟨s4, e4⟩ := new_of n4 hU27
    rw [eplus, cut_to (by rw [List.length_map]; omega), ← List.map_take] at e4
    have s04 := s03.trans s4
    have hsc : H sc = none := s03.free n4
    have efl : Pd.flipped ws n = ws.take pl ++ ((!x) :: ws.drop (pl + 1)) := by
      unfold Pd.flipped
      rw [hpl, List.getD_eq_getElem?_getD, hx, show ws.length - n = pl + 1 by omega]
      rfl
    generalize hlt : (!x) :: ws.drop (pl + 1) = later at *
    have hll : later.length + pl = ws.length := by
      rw [← hlt, List.length_cons, List.length_drop]
      omega
    -- the loop
    refine ⟨_, rfl, lt, rfl, ⟨_, SqL.of (s4 _ _ e3)⟩, for_list (K := K) (a := lt) (xs := wv later) (fun i σ' H' => ∃ (v5 : Option V) (us : List Addr) (tt : List Score), σ' = [some (.ref p), some (.int n), some (.int pl), some (.ref lt), some (.ref sc), v5] ∧ Same H3 H' ∧ H' sc = some (.lst (us.map V.ref)) ∧
      Pd.Trail a.rules a.first (ws.take pl ++ later.take i) tt ∧ Paired (ScoreAt T H') us tt) ?_ ?_ ?_ ?_⟩
    · refine (ex3 _ (as.take (pl + 1)) (ts.take (pl + 1)) ⟨rfl, s4, e4, ?_, paired_imp (fun _ _ q => ScoreAt.imm s04.imm q) (paired_take (pl + 1) hS)⟩)
      rw [List.take_zero, List.append_nil]
      exact Tr.take pl (by omega)
    · rintro i σ' H' _ ⟨v5, us, tt, _, s5, _⟩
      exact SqL.of (s5 _ _ e3)
    · rintro i y σ' H' hi ⟨v5, us, tt, rfl, s5, hsc5, Tr5, hS5⟩
      obtain ⟨z, hz, rfl⟩ : ∃ z, later[i]? = some z ∧ y = V.int (who z) := by
        unfold wv at hi
        rw [List.getElem?_map] at hi
        cases e : later[i]? with
        | none =>
          rw [e] at hi
          cases hi
        | some z =>
          rw [e] at hi
          exact ⟨z, rfl, (Option.some.inj hi).symm⟩
      have s05 := s03.trans s5
      have D5 := D1.same s05
      have hil : i < later.length := (List.getElem?_eq_some_iff.mp hz).1
      have ttl := Tr5.length
      -- the last score
      obtain ⟨tt', u, rfl⟩ : ∃ tt' u, tt = tt' ++ [u] := by
        rcases nil_or_snoc tt with rfl | ⟨tt', u, rfl⟩
        · simp at ttl
        · exact (ex2 tt' u rfl)
      obtain ⟨us', ua, rfl, hS6, hU⟩ := paired_last hS5
      have hlast : (tt' ++ [u])[(ws.take pl ++ later.take i).length]? = some u := by
        have : tt'.length = (ws.take pl ++ later.take i).length := by
          rw [List.length_append] at ttl
          simpa using ttl
        rw [← this]
        simp
      have Wu := Tr5.wf W0 u (by simp)
      have eT : later.take (i + 1) = later.take i ++ [z] := by rw [List.take_succ, hz]; rfl
      refine ((exE rfl (D5.rules (exE rfl (exE rfl (ixv (SqL.of hsc5) (last_of us' ua) (ex4 ra ua a.rules u ⟨rfl, hR.imm s05.imm, hU, Wu.wa, Wu.wb, exE rfl ?_⟩)))))))
      refine ite2 (fun co => ?_) (fun co => ?_)
      · have eD : later.drop i = z :: later.drop (i + 1) := by rw [List.drop_eq_getElem_cons hil, (List.getElem?_eq_some_iff.mp hz).2]
        have efl2 : Pd.flipped ws n = (ws.take pl ++ later.take i) ++ z :: later.drop (i + 1) := by
          rw [efl, List.append_assoc, ← eD, List.take_append_drop]
        obtain ⟨m, hm⟩ := Tr5.stop hlast co z (later.drop (i + 1))
        exact k.stay (Pd.act_right_no I n hk (by rw [efl2]; exact hm)) D s05
      · have ho : Ks301.over a.rules u.done = false := by simpa using co
        refine (exE rfl ⟨.inl ⟨rfl, _, SqL.of hsc5⟩, (exE rfl (D5.rules (exE rfl (exE rfl (ixv (SqL.of hsc5) (last_of us' ua) (exE rfl ⟨ra, ua, a.rules, u, z, rfl, hR.imm s05.imm, hU, Wf_done Wu, fun b H6 s6 hB => ?_⟩))))))⟩)
        have hsc6 := s6 _ _ hsc5
        have hul : (us' ++ [ua]).length ≤ 1001 := by
          have h1 := Paired.length hS5
          have h2 := Tr5.length
          rw [List.length_append (as := ws.take pl), List.length_take, List.length_take] at h2
          omega
        refine (ex3 sc _ _ ⟨rfl, rfl, hsc6, (by rw [List.length_map, sizeLine_eq]; omega), ?_⟩)
        have e7 : (us' ++ [ua]).map V.ref ++ [V.ref b] = ((us' ++ [ua]) ++ [b]).map V.ref := by rw [List.map_append (l₁ := us' ++ [ua])]; rfl
        rw [e7]
        have s37 : Same H3 (upd H6 sc (.lst (((us' ++ [ua]) ++ [b]).map V.ref))) := fun c o e => by
          rw [upd_ne (ne_of_none e n4)]
          exact s6 _ _ (s5 _ _ e)
        have i67 : Imm H6 (upd H6 sc (.lst (((us' ++ [ua]) ++ [b]).map V.ref))) := fun c o e f => by
          refine (upd_ne (fun q => ?_)).trans e
          subst q
          rw [hsc6] at e
          cases e
          exact absurd f (by simp [fixed])
        refine (ex3 _ ((us' ++ [ua]) ++ [b]) ((tt' ++ [u]) ++ [Pd.aft a.rules u z]) ⟨rfl, s37, upd_same, ?_, paired_snoc (hB.imm i67) (paired_imp (fun _ _ q => ScoreAt.imm i67 (ScoreAt.imm s6.imm q)) hS5)⟩)
        rw [eT, ← List.append_assoc, List.append_assoc tt']
        exact Tr5.snoc (Pd.point_aft Wu ho z)
    · rintro σ' H5 ⟨v5, us, tt, rfl, s5, hsc5, Tr5, hS5⟩
      rw [wv_len, List.take_length, ← efl] at Tr5
      have s05 := s03.trans s5
      have D5 := D1.same s05
      obtain ⟨a', ea, I', er⟩ := Pd.act_right I n hk Tr5
      -- self.winners
      refine ((exE rfl (D5.winners (exE rfl (exE rfl (ex2 lw _ ⟨rfl, SqL.of D5.win, fun q6 n6 => ?_⟩))))))
      generalize hU28 : upd _ q6 _ = H6
      obtain ⟨s6, e6⟩ := new_of n6 hU28
      rw [cut_to (by rw [wv_len]; omega), wv_take] at e6
      refine (exE rfl (ex4 q6 lt _ _ ⟨rfl, rfl, e6, s6 _ _ (s5 _ _ e3), (by rw [wv_len, wv_len, List.length_take, sizeLine_eq]; omega), fun q7 n7 => ?_⟩))
      generalize hU29 : upd _ q7 _ = H7
      obtain ⟨s7, e7⟩ := new_of n7 hU29
      have eW : wv (ws.take pl) ++ wv later = wv (Pd.flipped ws n) := by
        rw [efl]
        unfold wv
        rw [List.map_append]
      rw [eW] at e7
      have s57 := s6.trans s7
      have s07 := s05.trans s57
      have n7' : H q7 = none := (s05.trans s6).free n7
      have hne7 : q7 ≠ sc := fun z => by
        subst z
        rw [s6 _ _ hsc5] at n7
        cases n7
      refine (exE rfl ((D1.same s07).set_winners e7 (fun z => ?_) fun H8 D8 k8 => ?_))
      · subst z
        rw [D1.sco] at n7'
        cases n7'
      have hsp : sc ≠ p := fun z => by
        obtain ⟨dx, hp⟩ := D1.obj
        subst z
        rw [hp] at hsc
        cases hsc
      have hsc8 : H8 sc = some (.lst (us.map V.ref)) := by
        rw [k8 sc hsp]
        exact s57 _ _ hsc5
      refine (exE rfl (exE rfl (D8.set_scores hsc8 hne7 fun H9 D9 k9 => ?_)))
      have k79 : Keeps p lw ls H7 H9 := fun b o e hb _ _ => by rw [k9 b hb, k8 b hb]; exact e
      have i79 : Imm H7 H9 := (D1.same s07).imm k79
      rw [ea] at k
      have ron : a'.on = true := by unfold Abs.on; rw [er]; exact on
      exact k H9 q7 sc ⟨.ref ra, Pd.flipped ws n, tt, us, D9, I', paired_imp (fun _ _ q => ScoreAt.imm i79 (ScoreAt.imm s57.imm q)) hS5, fun z => (by rw [ron] at z; cases z), fun _ => ⟨ra, rfl, by rw [er]; exact (hR.imm s07.imm).imm i79⟩⟩ (.inr n7') (.inr hsc) (s07.keeps.trans k79)
end
end Pt

end
section
set_option Elab.async false
set_option linter.all false
set_option maxRecDepth 100000
set_option maxHeartbeats 2000000
namespace Pt
open PySem PySem.Spec PyProof.Rows L2
open Ks301 (Rules Score)
open Ks302 (decimal pair callOf)
open TL (tl tl_append tl_num tl_join joinL join_eq)
/-! ### texts by their signs -/
theorem tl_len (z : Str) : z.length = (tl z).length := by
  show z.cps.size = z.cps.toList.length
  rw [Array.length_toList]
theorem short {z : Str} {c : List Nat} (e : tl z = c) (h : c.length ≤ 1000) : z.length ≤ sizeLine := by
  rw [tl_len, e, sizeLine_eq]
  omega
theorem dec_tl {n : Nat} (h : n < 1000) : tl (Str.ofString (toString (n : Int))) = decimal 3 n := (tl_num n).trans (Pd.digits_all n h)
inductive Shows : V → List Nat → Prop
  | int (n : Nat) (h : n < 1000) : Shows (.int (n : Int)) (decimal 3 n)
  | str (z : Str) (h : (tl z).length ≤ 100) : Shows (.str z) (tl z)
theorem Shows.len {v : V} {c : List Nat} (h : Shows v c) : c.length ≤ 100 := by
  cases h with
  | int n _ => exact Nat.le_trans (Pd.decimal_len n) (by decide)
  | str z h => exact h
theorem Shows.fmt {v : V} {c : List Nat} {R : Str → Prop} (h : Shows v c) (q : ∀ z, tl z = c → R z) : (∃ z, v = .str z ∧ z.length ≤ sizeLine ∧ R z) ∨ ∃ n : Nat, v = .int n ∧ n < 1000000 ∧ R (Str.ofString (toString (n : Int))) := by
  cases h with
  | int n hn => exact .inr ⟨n, rfl, by omega, q _ (dec_tl hn)⟩
  | str z hz => exact .inl ⟨z, rfl, short rfl (by omega), q _ rfl⟩
theorem paired_get {α β : Type} {R : α → β → Prop} {xs : List α} {ys : List β} (h : Paired R xs ys) : ∀ {i : Nat} {a : α}, xs[i]? = some a → ∃ b, ys[i]? = some b ∧ R a b := by
  induction h with
  | nil =>
    intro i a e
    simp at e
  | cons r t ih =>
    intro i a e
    match i, e with
    | 0, e =>
      have e' := Option.some.inj e
      subst e'
      exact (exE rfl r)
    | i + 1, e => exact ih (by simpa using e)
/-- the i-th of them, as a value -/
theorem ref_get {ts : List Addr} {i : Nat} {x : V} (h : (ts.map V.ref)[i]? = some x) : ∃ t, ts[i]? = some t ∧ x = .ref t := by
  rw [List.getElem?_map] at h
  cases e : ts[i]? with
  | none =>
    rw [e] at h
    cases h
  | some t =>
    rw [e] at h
    exact ⟨t, rfl, (Option.some.inj h).symm⟩
theorem take_more {α : Type} {l : List α} {i : Nat} {x : α} (h : l[i]? = some x) : l.take (i + 1) = l.take i ++ [x] := by
  rw [List.take_add_one, h]
  rfl
theorem jn_is : ∀ l : List (List Nat), joinL [32] l = Pd.jn l
  | [] => rfl
  | [_] => rfl
  | p :: q :: r => by
    show p ++ ([32] ++ joinL [32] (q :: r)) = p ++ ([32] ++ Pd.jn (q :: r))
    rw [jn_is (q :: r)]
section
variable {P : Program} {w : World} {K : PySem.W.Frag} {mg : Str → Option Value} {base : Heap}
def sp_pair_text (K : PySem.W.Frag) : Sp := fun vs H Q _ => ∃ (a : Addr) (xs : List V) (v1 v2 : V) (c1 c2 : List Nat), vs = [.ref a] ∧ (SqL K H a xs ∨ SqT K H a xs) ∧ xs[0]? = some v1 ∧ xs[1]? = some v2 ∧ Shows v1 c1 ∧ Shows v2 c2 ∧
  ∀ z, tl z = pair c1 c2 → Q (.str z) H
noncomputable def tmk_pair_text_2 (T : Tx K mg) : Tm K mg ["pair", "first", "other"] "pair_text" s_pair_text T.f_pair_text 0 ((defBody s_pair_text).drop 2) :=
  ⟨_, fun cdv A outer s H E hr => pss_end (k := 2) rfl (ps_ret (Pr.pe_joined (Pr.jn_cons (Pr.pe_fmt (pv 1)) (Pr.jn_cons pe_str (Pr.jn_cons (Pr.pe_fmt (pv 2)) Pr.jn_nil)))))⟩
noncomputable def t_pair_text_2 (T : Tx K mg) : TS := (tmk_pair_text_2 T).t
noncomputable def tmk_pair_text_1 (T : Tx K mg) : Tm K mg ["pair", "first", "other"] "pair_text" s_pair_text T.f_pair_text 0 ((defBody s_pair_text).drop 1) :=
  ⟨tSeq _ (t_pair_text_2 T), fun cdv A outer s H E hr => pss_at (k := 1) rfl (ps_set (i := 2) sc_pair_text.nd rfl (Or.inl rfl) (pe_ix (show IxR _ (rIx K) from ix_seq) (pv 0) pe_int (fun _ _ => rfl)))
    ((tmk_pair_text_2 T).ok cdv A outer s H E hr)⟩
noncomputable def t_pair_text_1 (T : Tx K mg) : TS := (tmk_pair_text_1 T).t
noncomputable def tmk_pair_text_0 (T : Tx K mg) : Tm K mg ["pair", "first", "other"] "pair_text" s_pair_text T.f_pair_text 0 ((defBody s_pair_text).drop 0) :=
  ⟨tSeq _ (t_pair_text_1 T), fun cdv A outer s H E hr => pss_at (k := 0) rfl (ps_set (i := 1) sc_pair_text.nd rfl (Or.inl rfl) (pe_ix (show IxR _ (rIx K) from ix_seq) (pv 0) pe_int (fun _ _ => rfl)))
    ((tmk_pair_text_1 T).ok cdv A outer s H E hr)⟩
noncomputable def t_pair_text_0 (T : Tx K mg) : TS := (tmk_pair_text_0 T).t
theorem ok_pair_text (T : Tx K mg) : FnOk P w K mg base CX0 1 T.f_pair_text T.d_pair_text ["pair"] (sp_pair_text K) := by
  refine T.F_pair_text.ok sc_pair_text (fun vs H Q E h => ?_) (fun cdv A outer s H vs Q E hr h => ?_)
  · obtain ⟨_, _, _, _, _, _, rfl, _⟩ := h
    rfl
  · obtain ⟨a, xs, v1, v2, c1, c2, rfl, hs, e1, e2, S1, S2, k⟩ := h
    have l1 := S1.len
    have l2 := S2.len
    refine ⟨t_pair_text_0 T, (tmk_pair_text_0 T).ok _ _ _ _ _ _ hr, ?_⟩
    rcases hs with hs | hs
    · refine (exE rfl (.inl (ex4 a xs _ v1 ⟨rfl, rfl, hs, at_of (j := 0) rfl e1, exE rfl (.inl (ex4 a xs _ v2 ⟨rfl, rfl, hs, at_of (j := 1) rfl e2, ?_⟩))⟩)))
      refine (exE rfl (S1.fmt fun z1 q1 => ⟨z1, rfl, short (c := c1) (by rw [tl_append, q1]; rfl) (by omega), exE rfl ⟨short (c := c1 ++ [45]) (by rw [tl_append, tl_append, q1]; rfl) (by simp only [List.length_append, List.length_singleton]; omega), exE rfl (S2.fmt fun z2 q2 => ⟨z2, rfl, ?_, k _ ?_⟩)⟩⟩))
      · exact short (c := c1 ++ [45] ++ c2) (by rw [tl_append, tl_append, tl_append, q1, q2]; rfl) (by simp only [List.length_append, List.length_singleton]; omega)
      · rw [tl_append, tl_append, tl_append, q1, q2]
        show ([] ++ c1 ++ [45]) ++ c2 = c1 ++ 45 :: c2
        simp
    · refine (exE rfl (.inr (.inl (ex4 a xs _ v1 ⟨rfl, rfl, hs, at_of (j := 0) rfl e1, exE rfl (.inr (.inl (ex4 a xs _ v2 ⟨rfl, rfl, hs, at_of (j := 1) rfl e2, ?_⟩)))⟩))))
      refine (exE rfl (S1.fmt fun z1 q1 => ⟨z1, rfl, short (c := c1) (by rw [tl_append, q1]; rfl) (by omega), exE rfl ⟨short (c := c1 ++ [45]) (by rw [tl_append, tl_append, q1]; rfl) (by simp only [List.length_append, List.length_singleton]; omega), exE rfl (S2.fmt fun z2 q2 => ⟨z2, rfl, ?_, k _ ?_⟩)⟩⟩))
      · exact short (c := c1 ++ [45] ++ c2) (by rw [tl_append, tl_append, tl_append, q1, q2]; rfl) (by simp only [List.length_append, List.length_singleton]; omega)
      · rw [tl_append, tl_append, tl_append, q1, q2]
        show ([] ++ c1 ++ [45]) ++ c2 = c1 ++ 45 :: c2
        simp
def sp_won_by_tie_break : Sp := fun vs H Q _ => ∃ (a : Addr) (x : Nat × Nat × Nat), vs = [.ref a] ∧ T3 H a x ∧ Q (.bl (Pd.near x)) H
noncomputable def tmk_won_by_tie_break_0 (T : Tx K mg) : Tm K mg ["ended"] "won_by_tie_break" s_won_by_tie_break T.f_won_by_tie_break 0 ((defBody s_won_by_tie_break).drop 0) :=
  ⟨_, fun cdv A outer s H E hr => pss_end (k := 0) rfl (ps_ret (pe_cmpR op_lt (pe_callB call_abs (by rfl) T.z_abs bt_abs (pa_cons (pe_op op_sub (pe_ix (show IxR _ (rIxT K) from ix_tup) (pv 0) pe_int (fun _ _ => rfl)) (pe_ix (show IxR _ (rIxT K) from ix_tup) (pv 0) pe_int (fun _ _ => rfl))) pa_nil)) (pe_glob rfl T.v_LEAD T.r_LEAD) (nomark _)))⟩
noncomputable def t_won_by_tie_break_0 (T : Tx K mg) : TS := (tmk_won_by_tie_break_0 T).t
theorem ok_won_by_tie_break (T : Tx K mg) : FnOk P w K mg base CX0 1 T.f_won_by_tie_break T.d_won_by_tie_break ["ended"] sp_won_by_tie_break := by
  refine T.F_won_by_tie_break.ok sc_won_by_tie_break (fun vs H Q E h => ?_) (fun cdv A outer s H vs Q E hr h => ?_)
  · obtain ⟨_, _, rfl, _⟩ := h
    rfl
  · obtain ⟨a, ⟨x, y, t⟩, rfl, h3, k⟩ := h
    have h3' : H a = some (.tup [.int x, .int y, .int t]) := h3
    refine ⟨t_won_by_tie_break_0 T, (tmk_won_by_tie_break_0 T).ok _ _ _ _ _ _ hr, ?_⟩
    have e : decide ((if (x : Int) - (y : Int) < 0 then -((x : Int) - (y : Int)) else (x : Int) - (y : Int)) < 2) = Pd.near (x, y, t) := by
      unfold Pd.near
      rw [Bool.eq_iff_iff]
      simp only [decide_eq_true_eq]
      split <;> omega
    rw [← e] at k
    exact (exE rfl (ixn (j := 0) (SqT.of h3') rfl rfl (exE rfl (ixn (j := 1) (SqT.of h3') rfl rfl (ii2 (exE rfl (ii2 k)))))))
def sp_set_text : Sp := fun vs H Q _ => ∃ (a : Addr) (x : Nat × Nat × Nat), vs = [.ref a] ∧ T3 H a x ∧ (x.1 < 1000 ∧ x.2.1 < 1000 ∧ x.2.2 < 1000) ∧ ∀ z, tl z = Pd.setP x → Q (.str z) H
noncomputable def tmk_set_text_3 (T : Tx K mg) : Tm K mg ["ended", "games", "loser_points"] "set_text" s_set_text T.f_set_text 1 ((defBody s_set_text).drop 3) :=
  ⟨_, fun cdv A outer s H E hr => pss_end (k := 3) rfl (ps_ret (Pr.pe_joined (Pr.jn_cons (Pr.pe_fmt (pv 1)) (Pr.jn_cons pe_str (Pr.jn_cons (Pr.pe_fmt (pv 2)) (Pr.jn_cons pe_str Pr.jn_nil))))))⟩
noncomputable def t_set_text_3 (T : Tx K mg) : TS := (tmk_set_text_3 T).t
noncomputable def tmk_set_text_2 (T : Tx K mg) : Tm K mg ["ended", "games", "loser_points"] "set_text" s_set_text T.f_set_text 1 ((defBody s_set_text).drop 2) :=
  ⟨tSeq _ (t_set_text_3 T), fun cdv A outer s H E hr => pss_at (k := 2) rfl (ps_set (i := 2) sc_set_text.nd rfl (Or.inl rfl) (pe_ix (show IxR _ (rIxT K) from ix_tup) (pv 0) pe_int (fun _ _ => rfl)))
    ((tmk_set_text_3 T).ok cdv A outer s H E hr)⟩
noncomputable def t_set_text_2 (T : Tx K mg) : TS := (tmk_set_text_2 T).t
noncomputable def tmk_set_text_1 (T : Tx K mg) : Tm K mg ["ended", "games", "loser_points"] "set_text" s_set_text T.f_set_text 1 ((defBody s_set_text).drop 1) :=
  ⟨tSeq _ (t_set_text_2 T), fun cdv A outer s H E hr => pss_at (k := 1) rfl (ps_if (pt_not (pt_val (pe_call (ok_won_by_tie_break T) (hr.mono (by decide)) rfl T.g_won_by_tie_break T.F_won_by_tie_break.kp T.b_won_by_tie_break .nil pass0 (pa_cons (pv 0) pa_nil)))) (pss_one (ps_ret (pv 1))) pss_nil)
    ((tmk_set_text_2 T).ok cdv A outer s H E hr)⟩
noncomputable def t_set_text_1 (T : Tx K mg) : TS := (tmk_set_text_1 T).t
noncomputable def tmk_set_text_0 (T : Tx K mg) : Tm K mg ["ended", "games", "loser_points"] "set_text" s_set_text T.f_set_text 1 ((defBody s_set_text).drop 0) :=
  ⟨tSeq _ (t_set_text_1 T), fun cdv A outer s H E hr => pss_at (k := 0) rfl (ps_set (i := 1) sc_set_text.nd rfl (Or.inl rfl) (pe_call (ok_pair_text T) (hr.mono (by decide)) rfl T.g_pair_text T.F_pair_text.kp T.b_pair_text .nil pass0 (pa_cons (pv 0) pa_nil)))
    ((tmk_set_text_1 T).ok cdv A outer s H E hr)⟩
noncomputable def t_set_text_0 (T : Tx K mg) : TS := (tmk_set_text_0 T).t
theorem ok_set_text (T : Tx K mg) : FnOk P w K mg base CX0 2 T.f_set_text T.d_set_text ["ended"] sp_set_text := by
  refine T.F_set_text.ok sc_set_text (fun vs H Q E h => ?_) (fun cdv A outer s H vs Q E hr h => ?_)
  · obtain ⟨_, _, rfl, _⟩ := h
    rfl
  · obtain ⟨a, ⟨x, y, t⟩, rfl, h3, ⟨b1, b2, b3⟩, k⟩ := h
    have h3' : H a = some (.tup [.int x, .int y, .int t]) := h3
    refine ⟨t_set_text_0 T, (tmk_set_text_0 T).ok _ _ _ _ _ _ hr, ?_⟩
    refine (exE rfl (ex6 a _ _ _ _ _ ⟨rfl, .inr (SqT.of h3'), rfl, rfl, .int x b1, .int y b2, fun z1 q1 => ?_⟩))
    refine (exE rfl (ex2 a (x, y, t) ⟨rfl, h3, exE rfl ?_⟩))
    have c1 := Pd.decimal_len x
    have c2 := Pd.decimal_len y
    have c3 := Pd.decimal_len t
    have l1 : (tl z1).length ≤ 100 := by
      rw [q1]
      simp [pair]
      omega
    refine ite2 (fun c => ?_) (fun c => ?_)
    · refine (exE rfl (k z1 ?_))
      have n : Pd.near (x, y, t) = false := by simpa using c
      unfold Pd.setP
      rw [n, q1]
      simp
    · refine (exE rfl (ixn (j := 2) (SqT.of h3') rfl rfl ?_))
      have n : Pd.near (x, y, t) = true := by simpa using c
      refine ⟨_, rfl, (Shows.str z1 l1).fmt fun z2 q2 => ⟨z2, rfl, short (c := tl z1) (by rw [tl_append, q2]; rfl) (by omega), _, rfl, short (c := tl z1 ++ [40]) (by rw [tl_append, tl_append, q2]; rfl) (by simp only [List.length_append, List.length_singleton]; omega),
        _, rfl, (Shows.int t b3).fmt fun z3 q3 => ⟨z3, rfl, short (c := tl z1 ++ [40] ++ decimal 3 t) (by rw [tl_append, tl_append, tl_append, q2, q3]; rfl) (by simp only [List.length_append, List.length_singleton]; omega), _, rfl, ?_, k _ ?_⟩⟩⟩
      · exact short (c := tl z1 ++ [40] ++ decimal 3 t ++ [41]) (by rw [tl_append, tl_append, tl_append, tl_append, q2, q3]; rfl) (by simp only [List.length_append, List.length_singleton]; omega)
      · rw [tl_append, tl_append, tl_append, tl_append, q2, q3, q1]
        unfold Pd.setP
        rw [n]
        show ((([] ++ pair (decimal 3 x) (decimal 3 y)) ++ [40]) ++ decimal 3 t) ++ [41] = _
        simp
/-- 0, 15, 30, 40, A -/
def called (p : Nat) : Str := (["0", "15", "30", "40", "A"] : List Str).getD p "A"
theorem called_at {p : Nat} (h : p ≤ 4) : ((["0", "15", "30", "40", "A"] : List Str).map V.str)[p]? = some (.str (called p)) := by
  match p, h with
  | 0, _ => rfl
  | 1, _ => rfl
  | 2, _ => rfl
  | 3, _ => rfl
  | 4, _ => rfl
  | p + 5, h => omega
theorem called_tl {p : Nat} (h : p ≤ 4) : tl (called p) = callOf p := by
  match p, h with
  | 0, _ => decide +kernel
  | 1, _ => decide +kernel
  | 2, _ => decide +kernel
  | 3, _ => decide +kernel
  | 4, _ => decide +kernel
  | p + 5, h => omega
def sp_points_text (T : Tx K mg) : Sp := fun vs H Q _ => ∃ (ra sa : Addr) (r : Rules) (s : Score), vs = [.ref ra, .ref sa] ∧ RulesAt T H ra r ∧ ScoreAt T H sa s ∧ s.pa < 1000 ∧ s.pb < 1000 ∧ (Ks301.tie r s = false → s.pa ≤ 4 ∧ s.pb ≤ 4) ∧
  ∀ z H', Same H H' → tl z = Pd.ptP r s → Q (.str z) H'
noncomputable def tmk_points_text_1 (T : Tx K mg) : Tm K mg ["rules", "score", "points"] "points_text" s_points_text T.f_points_text 2 ((defBody s_points_text).drop 1) :=
  ⟨_, fun cdv A outer s H E hr => pss_end (k := 1) rfl (ps_ret (pe_call (ok_pair_text T) (hr.mono (by decide)) rfl T.g_pair_text T.F_pair_text.kp T.b_pair_text .nil pass0 (pa_cons (pe_lc rfl sc_points_text.nd (show PI _ _ _ (iTup K _) from pi_tup (show PE _ _ (tFld K _ _) from pe_fld (pv 1) rfl)) (blkOk_by (own := [("points", 2)]) (by show blkC ["rules", "score", "points"] (defScope s_points_text) _ _ = true; decide +kernel)) (fun _ _ _ _ _ => pg_name (i := 2) sc_points_text.nd rfl (Or.inl rfl)) (fun _ _ _ _ _ => pts_nil) (fun _ _ _ _ _ => (pe_ix (show IxR _ (rIxT K) from ix_tup) (pe_glob (v := .ref T.p_POINT_TEXTS) rfl T.v_POINT_TEXTS rfl) (pv 2) (fun _ _ => rfl)))) pa_nil)))⟩
noncomputable def t_points_text_1 (T : Tx K mg) : TS := (tmk_points_text_1 T).t
noncomputable def tmk_points_text_0 (T : Tx K mg) : Tm K mg ["rules", "score", "points"] "points_text" s_points_text T.f_points_text 2 ((defBody s_points_text).drop 0) :=
  ⟨tSeq _ (t_points_text_1 T), fun cdv A outer s H E hr => pss_at (k := 0) rfl (ps_if (pt_val (pe_call (ok_in_tie_break T) (hr.mono (by decide)) rfl T.g_in_tie_break T.F_in_tie_break.kp T.b_in_tie_break .nil pass0 (pa_cons (pv 0) (pa_cons (pv 1) pa_nil)))) (pss_one (ps_ret (pe_call (ok_pair_text T) (hr.mono (by decide)) rfl T.g_pair_text T.F_pair_text.kp T.b_pair_text .nil pass0 (pa_cons (show PE _ _ (tFld K _ _) from pe_fld (pv 1) rfl) pa_nil)))) pss_nil)
    ((tmk_points_text_1 T).ok cdv A outer s H E hr)⟩
noncomputable def t_points_text_0 (T : Tx K mg) : TS := (tmk_points_text_0 T).t
theorem ok_points_text (T : Tx K mg) : FnOk P w K mg base CX0 3 T.f_points_text T.d_points_text ["rules", "score"] (sp_points_text T) := by
  refine T.F_points_text.ok sc_points_text (fun vs H Q E h => ?_) (fun cdv A outer s H vs Q E hr h => ?_)
  · obtain ⟨_, _, _, _, rfl, _⟩ := h
    rfl
  · obtain ⟨ra, sa, r, s, rfl, hR, hS, b1, b2, b3, k⟩ := h
    refine ⟨t_points_text_0 T, (tmk_points_text_0 T).ok _ _ _ _ _ _ hr, ?_⟩
    refine (exE rfl (exE rfl (ex4 ra sa r s ⟨rfl, hR, hS, fun H1 s1 => (exE rfl ?_)⟩)))
    obtain ⟨td, tw, tg, tp, ts, h1, h2, h3, h4, h5⟩ := (hS.imm s1.imm).ex
    have h5' : H1 tp = some (.tup [.int s.pa, .int s.pb]) := h5
    refine ite2 (fun c => ?_) (fun c => ?_)
    · refine (exE rfl (h1.points (ex6 tp _ _ _ _ _ ⟨rfl, .inr (SqT.of h5'), rfl, rfl, .int s.pa b1, .int s.pb b2, fun z q => k z H1 s1 ?_⟩)))
      unfold Pd.ptP
      rw [q, c]
      rfl
    · have nt : Ks301.tie r s = false := by simpa using c
      obtain ⟨p1, p2⟩ := b3 nt
      refine (exE rfl (h1.points ⟨tp, rfl, ⟨_, SqT.of h5'⟩, fun D nD => ?_⟩))
      refine lc_tup (K := K) (a := tp) (xs := [.int s.pa, .int s.pb]) (fun i H' => Same H1 H' ∧ H' D = some (.lst (([.str (called s.pa), .str (called s.pb)] : List V).take i))) ?_ ?_ ?_ ?_
      · exact ⟨Same.new nD, upd_same⟩
      · rintro i H' _ ⟨s2, _⟩
        exact SqT.of (s2 _ _ h5')
      · rintro i x H' hi ⟨s2, hD⟩
        have step : ∀ (p : Nat), p ≤ 4 → x = .int p → ([.str (called s.pa), .str (called s.pb)] : List V).take (i + 1) = ([.str (called s.pa), .str (called s.pb)] : List V).take i ++ [.str (called p)] → i < 2 →
            gName 2 x (wipe (L2.start [Str.ofString "rules", Str.ofString "score", Str.ofString "points"] [V.ref ra, V.ref sa]) [2]) H' fun σ2 H2 => wipe σ2 [2] = wipe (L2.start [Str.ofString "rules", Str.ofString "score", Str.ofString "points"] [V.ref ra, V.ref sa]) [2] ∧
              tYes σ2 H2 fun b H3 => if b = true then (tOp (rIxT K) (tC (.ref T.p_POINT_TEXTS)) (tVar 2)) σ2 H3 fun y H4 => ∃ acc, H4 D = some (.lst acc) ∧ acc.length < sizeLine ∧ (Same H1 (upd H4 D (.lst (acc ++ [y]))) ∧ (upd H4 D (.lst (acc ++ [y]))) D = some (.lst (([.str (called s.pa), .str (called s.pb)] : List V).take (i + 1))))
              else (Same H1 H3 ∧ H3 D = some (.lst (([.str (called s.pa), .str (called s.pb)] : List V).take (i + 1)))) := fun p hp ex et hi2 => by
          subst ex
          refine ⟨rfl, exE rfl (ex4 T.p_POINT_TEXTS _ _ _ ⟨rfl, rfl, T.D_POINT_TEXTS.ex _, at_of (j := p) rfl (called_at hp), _, hD, ?_, ?_, ?_⟩)⟩
          · rw [List.length_take, sizeLine_eq]
            show min i 2 < _
            omega
          · intro b o e
            rw [upd_ne (ne_of_none e nD)]
            exact s2 _ _ e
          · rw [upd_same, et]
        cases i with
        | zero => exact step s.pa p1 (Option.some.inj hi).symm rfl (by decide)
        | succ i =>
          cases i with
          | zero => exact step s.pb p2 (Option.some.inj hi).symm rfl (by decide)
          | succ i => simp at hi
      · rintro H' ⟨s2, hD⟩
        refine ⟨D, ex5 _ _ _ _ _ ⟨rfl, .inl (SqL.of hD), rfl, rfl, .str _ ?_, .str _ ?_, fun z q => k z H' (s1.trans s2) ?_⟩⟩
        · rw [called_tl p1]
          exact Nat.le_trans (Pd.callOf_len _) (by decide)
        · rw [called_tl p2]
          exact Nat.le_trans (Pd.callOf_len _) (by decide)
        · unfold Pd.ptP
          rw [q, nt, called_tl p1, called_tl p2]
          rfl
end
end Pt

end
section
set_option Elab.async false
set_option linter.all false
set_option maxRecDepth 100000
set_option maxHeartbeats 2000000
namespace Pt
open PySem PySem.Spec PyProof.Rows L2
open Ks301 (Rules Score)
open TL (tl tl_append tl_num tl_join joinL join_eq)
theorem cdiv2 {i : Int} : CDiv i 2 := ⟨by decide, by decide⟩
theorem cdiv6 {i : Int} : CDiv i 6 := ⟨by decide, by decide⟩
theorem join_size : ∀ {zs : List Str} {cs : List (List Nat)}, zs.map tl = cs → (∀ c ∈ cs, c.length ≤ 12) → (zs.map (·.length)).sum ≤ 12 * zs.length
  | [], _, _, _ => Nat.zero_le _
  | z :: zs, _, rfl, h => by
    have h1 := h (tl z) (by simp)
    have h2 := join_size (zs := zs) rfl fun c hc => h c (List.mem_cons_of_mem _ hc)
    rw [List.map_cons, List.sum_cons, tl_len, List.length_cons]
    omega
theorem sum_cast : ∀ l : List (Nat × Nat × Nat), (l.map fun x => (x.1 : Int) + (x.2.1 : Int)).sum = (((l.map fun x => x.1 + x.2.1).sum : Nat) : Int)
  | [] => rfl
  | x :: l => by
    rw [List.map_cons, List.map_cons, List.sum_cons, List.sum_cons, sum_cast l]
    omega
section
variable {P : Program} {w : World} {K : PySem.W.Frag} {mg : Str → Option Value} {base : Heap}
def sp_score_text (T : Tx K mg) : Sp := fun vs H Q _ => ∃ (ra sa : Addr) (r : Rules) (s : Score), vs = [.ref ra, .ref sa] ∧ RulesAt T H ra r ∧ ScoreAt T H sa s ∧ Pd.Wf r s ∧ Pd.Bd r 1000 s ∧ ∀ z H', Same H H' → tl z = Ks302.text r s → Q (.str z) H'
noncomputable def tmk_score_text_2 (T : Tx K mg) : Tm K mg ["rules", "score", "parts", "ended"] "score_text" s_score_text T.f_score_text 3 ((defBody s_score_text).drop 2) :=
  ⟨_, fun cdv A outer s H E hr => pss_end (k := 2) rfl (ps_ret (show PE _ _ (tM1 (Pr.rJoin K) _ _) from pe_join pe_str (pv 2)))⟩
noncomputable def t_score_text_2 (T : Tx K mg) : TS := (tmk_score_text_2 T).t
noncomputable def smk_score_text_1 (T : Tx K mg) : Sm K mg ["rules", "score", "parts", "ended"] "score_text" s_score_text T.f_score_text 3 ((defBody s_score_text).getD 1 (.Pass ⟨0, 0, 0, 0⟩)) :=
  ⟨_, fun cdv A outer s H E hr => ps_at (k := 1) rfl (ps_if (pt_not (pt_val (pe_call (ok_match_over T) (hr.mono (by decide)) rfl T.g_match_over T.F_match_over.kp T.b_match_over .nil pass0 (pa_cons (pv 0) (pa_cons (pv 1) pa_nil))))) (pss_cons (ps_expr (show PE _ _ (tBM K _ _ _ _) from pe_bm PySem.F.plainAttrs_list PySem.F.slot_list_append PySem.F.type_list_append mt_append (pv 2) (pa_cons (pe_call (ok_pair_text T) (hr.mono (by decide)) rfl T.g_pair_text T.F_pair_text.kp T.b_pair_text .nil pass0 (pa_cons (show PE _ _ (tFld K _ _) from pe_fld (pv 1) rfl) pa_nil)) pa_nil)))
      (pss_one (ps_expr (show PE _ _ (tBM K _ _ _ _) from pe_bm PySem.F.plainAttrs_list PySem.F.slot_list_append PySem.F.type_list_append mt_append (pv 2) (pa_cons (pe_call (ok_points_text T) (hr.mono (by decide)) rfl T.g_points_text T.F_points_text.kp T.b_points_text .nil pass0 (pa_cons (pv 0) (pa_cons (pv 1) pa_nil))) pa_nil))))) pss_nil)⟩
noncomputable def u_score_text_1 (T : Tx K mg) : TS := (smk_score_text_1 T).t
noncomputable def tmk_score_text_1 (T : Tx K mg) : Tm K mg ["rules", "score", "parts", "ended"] "score_text" s_score_text T.f_score_text 3 ((defBody s_score_text).drop 1) :=
  ⟨tSeq (u_score_text_1 T) (t_score_text_2 T), fun cdv A outer s H E hr => pss_cut (k := 1) rfl ((smk_score_text_1 T).ok cdv A outer s H E hr) ((tmk_score_text_2 T).ok cdv A outer s H E hr)⟩
noncomputable def t_score_text_1 (T : Tx K mg) : TS := (tmk_score_text_1 T).t
theorem e_score_text_1 (T : Tx K mg) : t_score_text_1 T = tSeq (u_score_text_1 T) (t_score_text_2 T) := rfl
noncomputable def tmk_score_text_0 (T : Tx K mg) : Tm K mg ["rules", "score", "parts", "ended"] "score_text" s_score_text T.f_score_text 3 ((defBody s_score_text).drop 0) :=
  ⟨tSeq _ (t_score_text_1 T), fun cdv A outer s H E hr => pss_at (k := 0) rfl (ps_setLc (i := 2) rfl sc_score_text.nd rfl rfl (sw_true rfl rfl rfl rfl) (show PI _ _ _ (iTup K _) from pi_tup (show PE _ _ (tFld K _ _) from pe_fld (pv 1) rfl)) (blkOk_by (own := [("ended", 3)]) (by show blkC ["rules", "score", "parts", "ended"] (defScope s_score_text) _ _ = true; decide +kernel)) (fun _ _ _ _ _ => pg_name (i := 3) sc_score_text.nd rfl (Or.inl rfl)) (fun _ _ _ _ _ => pts_nil) (fun _ _ _ _ _ => (pe_call (ok_set_text T) (hr.mono (by decide)) rfl T.g_set_text T.F_set_text.kp T.b_set_text .nil pass0 (pa_cons (pv 3) pa_nil))))
    ((tmk_score_text_1 T).ok cdv A outer s H E hr)⟩
noncomputable def t_score_text_0 (T : Tx K mg) : TS := (tmk_score_text_0 T).t
theorem ok_score_text (T : Tx K mg) : FnOk P w K mg base CX0 4 T.f_score_text T.d_score_text ["rules", "score"] (sp_score_text T) := by
  refine T.F_score_text.ok sc_score_text (fun vs H Q E h => ?_) (fun cdv A outer s H vs Q E hr h => ?_)
  · obtain ⟨_, _, _, _, rfl, _⟩ := h
    rfl
  · obtain ⟨ra, sa, r, s, rfl, hR, hS, W, B, k⟩ := h
    refine ⟨t_score_text_0 T, (tmk_score_text_0 T).ok _ _ _ _ _ _ hr, ?_⟩
    obtain ⟨td, tw, tg, tp, ts, h1, h2, h3, h4, h5⟩ := hS.ex
    have hsm := B.smallD W.ok
    have hpl := Pd.parts_small W
    have hdl := Wf_done W
    refine (exE rfl (h1.done ⟨td, rfl, ⟨_, SqT.of h2.tup⟩, fun D nD => ?_⟩))
    refine lc_tup (K := K) (a := td) (xs := ts.map V.ref) (fun i H' => Same H H' ∧ ∃ zs : List Str, H' D = some (.lst (zs.map V.str)) ∧ zs.map tl = (s.done.take i).map Pd.setP) ?_ ?_ ?_ ?_
    · exact ⟨Same.new nD, [], upd_same, rfl⟩
    · rintro i H' _ ⟨s1, _⟩
      exact SqT.of (s1 _ _ h2.tup)
    · rintro i x H' hi ⟨s1, zs, hD, ez⟩
      obtain ⟨t, ht, rfl⟩ := ref_get hi
      obtain ⟨y, hy, h3y⟩ := paired_get h2.each ht
      have hzl : zs.length ≤ 1000 := by
        have e := congrArg List.length ez
        rw [List.length_map, List.length_map, List.length_take] at e
        omega
      refine ⟨rfl, exE rfl (ex2 t y ⟨rfl, h3y.imm s1.imm, hsm y (List.mem_of_getElem? hy), fun z ezz => ⟨_, hD, ?_, ?_, zs ++ [z], ?_, ?_⟩⟩)⟩
      · rw [List.length_map, sizeLine_eq]
        omega
      · intro b o e
        rw [upd_ne (ne_of_none e nD)]
        exact s1 _ _ e
      · rw [upd_same, List.map_append]
        rfl
      · rw [List.map_append, ez, take_more hy, List.map_append]
        show _ ++ [tl z] = _ ++ [Pd.setP y]
        rw [ezz]
    · rintro H1 ⟨s1, zs, hD, ez⟩
      have hl : ts.length = s.done.length := Paired.length h2.each
      rw [List.length_map, hl, List.take_length] at ez
      dsimp only [gName]
      have hzl : zs.length ≤ 1000 := by
        have e := congrArg List.length ez
        rw [List.length_map, List.length_map] at e
        omega
      refine seq_by (e_score_text_1 T) (fun σ' H' => ∃ zs : List Str, σ' = [some (.ref ra), some (.ref sa), some (.ref D), none] ∧ Same H H' ∧ H' D = some (.lst (zs.map V.str)) ∧ zs.map tl = Pd.parts r s) ?_ (fun rest => ?_)
      · rintro σ' H2 ⟨us, rfl, s2, hD2, eu⟩
        have hul : us.length ≤ 8 := by
          have e := congrArg List.length eu
          rw [List.length_map] at e
          rw [e]
          exact hpl.1
        refine ⟨⟨_, rfl⟩, exE rfl ⟨_, D, us, rfl, rfl, .inl (SqL.of hD2), ?_, k _ H2 s2 ?_⟩⟩
        · have := join_size eu hpl.2
          show (us.map (·.length)).sum + us.length * 1 ≤ 16777216
          omega
        · rw [join_eq, tl_join, eu, Pd.text_eq B.sets]
          exact jn_is _
      · refine (exE rfl (exE rfl (ex4 ra sa r s ⟨rfl, hR.imm s1.imm, hS.imm s1.imm, W.wa, W.wb, exE rfl ?_⟩)))
        refine ite2 (fun c => ?_) (fun c => ?_)
        · have ho : Ks301.over r s.done = false := by simpa using c
          have sm := B.small W ho
          have h1' := h1.imm s1.imm
          have h4' : H1 tg = some (.tup [.int s.ga, .int s.gb]) := h4.imm s1.imm
          refine (exE rfl ⟨.inl ⟨rfl, _, SqL.of hD⟩, exE rfl (h1'.games (ex6 tg _ _ _ _ _ ⟨rfl, .inr (SqT.of h4'), rfl, rfl, .int s.ga sm.1, .int s.gb sm.2.1, fun z1 q1 => ?_⟩))⟩)
          refine ⟨D, ex2 _ _ ⟨rfl, rfl, hD, (by rw [List.length_map, sizeLine_eq]; omega), ?_⟩⟩
          have s2 : Same H (upd H1 D (.lst (zs.map V.str ++ [.str z1]))) := fun b o e => by
            rw [upd_ne (ne_of_none e nD)]
            exact s1 _ _ e
          have i2 : Imm H1 (upd H1 D (.lst (zs.map V.str ++ [.str z1]))) := fun b o e f => by
            refine (upd_ne (fun q => ?_)).trans e
            subst q
            rw [hD] at e
            cases e
            exact absurd f (by simp [fixed])
          have hD2 : (upd H1 D (.lst (zs.map V.str ++ [.str z1]))) D = some (.lst (zs.map V.str ++ [.str z1])) := upd_same
          generalize upd H1 D (.lst (zs.map V.str ++ [.str z1])) = H2 at *
          refine (exE rfl ⟨.inl ⟨rfl, _, SqL.of hD2⟩, exE rfl (exE rfl (ex4 ra sa r s ⟨rfl, hR.imm s2.imm, hS.imm s2.imm, sm.2.2.1, sm.2.2.2, Pd.points_le W ho, fun z2 H3 s3 q2 => ?_⟩))⟩)
          refine ⟨D, ex2 _ _ ⟨rfl, rfl, s3 _ _ hD2, (by rw [List.length_append, List.length_map, sizeLine_eq]; show zs.length + 1 < _; omega), ?_⟩⟩
          refine rest _ _ ⟨zs ++ [z1] ++ [z2], rfl, fun b o e => ?_, ?_, ?_⟩
          · rw [upd_ne (ne_of_none e nD)]
            exact s3 _ _ (s2 _ _ e)
          · rw [upd_same, List.map_append, List.map_append]
            rfl
          · unfold Pd.parts
            rw [List.map_append, List.map_append, ez, ho]
            show (_ ++ [tl z1]) ++ [tl z2] = _
            rw [q1, q2]
            simp
        · have ho : Ks301.over r s.done = true := by simpa using c
          refine rest _ _ ⟨zs, rfl, s1, hD, ?_⟩
          unfold Pd.parts
          rw [ez, ho]
          simp
def sp_server (T : Tx K mg) : Sp := fun vs H Q _ => ∃ (ra sa : Addr) (r : Rules) (s : Score), vs = [.ref ra, .ref sa] ∧ RulesAt T H ra r ∧ ScoreAt T H sa s ∧ s.done.length ≤ 1000 ∧ ∀ H', Same H H' → Q (.int (if Ks302.serves r s = true then 0 else 1)) H'
noncomputable def tmk_server_2 (T : Tx K mg) : Tm K mg ["rules", "score", "turns", "ended"] "server" s_server T.f_server 2 ((defBody s_server).drop 2) :=
  ⟨_, fun cdv A outer s H E hr => pss_end (k := 2) rfl (ps_ret (pe_op op_mod (pv 2) pe_int))⟩
noncomputable def t_server_2 (T : Tx K mg) : TS := (tmk_server_2 T).t
noncomputable def smk_server_1 (T : Tx K mg) : Sm K mg ["rules", "score", "turns", "ended"] "server" s_server T.f_server 2 ((defBody s_server).getD 1 (.Pass ⟨0, 0, 0, 0⟩)) :=
  ⟨_, fun cdv A outer s H E hr => ps_at (k := 1) rfl (ps_if (pt_val (pe_call (ok_in_tie_break T) (hr.mono (by decide)) rfl T.g_in_tie_break T.F_in_tie_break.kp T.b_in_tie_break .nil pass0 (pa_cons (pv 0) (pa_cons (pv 1) pa_nil)))) (pss_one (ps_set (i := 2) sc_server.nd rfl (Or.inl rfl) (pe_op op_add (pv 2) (pe_op op_fdiv (pe_op op_add (pe_callB (show CallR _ _ (Pr.rPair K _) from Pr.cr_sumT rfl) (by rfl) T.z_sum bt_sum (pa_cons (show PE _ _ (tFld K _ _) from pe_fld (pv 1) rfl) pa_nil)) pe_int) pe_int)))) pss_nil)⟩
noncomputable def u_server_1 (T : Tx K mg) : TS := (smk_server_1 T).t
noncomputable def tmk_server_1 (T : Tx K mg) : Tm K mg ["rules", "score", "turns", "ended"] "server" s_server T.f_server 2 ((defBody s_server).drop 1) :=
  ⟨tSeq (u_server_1 T) (t_server_2 T), fun cdv A outer s H E hr => pss_cut (k := 1) rfl ((smk_server_1 T).ok cdv A outer s H E hr) ((tmk_server_2 T).ok cdv A outer s H E hr)⟩
noncomputable def t_server_1 (T : Tx K mg) : TS := (tmk_server_1 T).t
theorem e_server_1 (T : Tx K mg) : t_server_1 T = tSeq (u_server_1 T) (t_server_2 T) := rfl
noncomputable def tmk_server_0 (T : Tx K mg) : Tm K mg ["rules", "score", "turns", "ended"] "server" s_server T.f_server 2 ((defBody s_server).drop 0) :=
  ⟨tSeq _ (t_server_1 T), fun cdv A outer s H E hr => pss_at (k := 0) rfl (ps_set (i := 2) sc_server.nd rfl (Or.inl rfl) (pe_op op_add (pe_callB (show CallR _ _ (Pr.rPair K _) from Pr.cr_sumT rfl) (by rfl) T.z_sum bt_sum (pa_cons (show PE _ _ (tFld K _ _) from pe_fld (pv 1) rfl) pa_nil)) (pe_callB (show CallR _ _ (rSum K) from cr_sum rfl) (by rfl) T.z_sum bt_sum (pa_cons (pe_lc rfl sc_server.nd (show PI _ _ _ (iTup K _) from pi_tup (show PE _ _ (tFld K _ _) from pe_fld (pv 1) rfl)) (blkOk_by (own := [("ended", 3)]) (by show blkC ["rules", "score", "turns", "ended"] (defScope s_server) _ _ = true; decide +kernel)) (fun _ _ _ _ _ => pg_name (i := 3) sc_server.nd rfl (Or.inl rfl)) (fun _ _ _ _ _ => pts_nil) (fun _ _ _ _ _ => (pe_op op_add (pe_ix (show IxR _ (rIxT K) from ix_tup) (pv 3) pe_int (fun _ _ => rfl)) (pe_ix (show IxR _ (rIxT K) from ix_tup) (pv 3) pe_int (fun _ _ => rfl))))) pa_nil))))
    ((tmk_server_1 T).ok cdv A outer s H E hr)⟩
noncomputable def t_server_0 (T : Tx K mg) : TS := (tmk_server_0 T).t
theorem ok_server (T : Tx K mg) : FnOk P w K mg base CX0 3 T.f_server T.d_server ["rules", "score"] (sp_server T) := by
  refine T.F_server.ok sc_server (fun vs H Q E h => ?_) (fun cdv A outer s H vs Q E hr h => ?_)
  · obtain ⟨_, _, _, _, rfl, _⟩ := h
    rfl
  · obtain ⟨ra, sa, r, s, rfl, hR, hS, hdl, k⟩ := h
    refine ⟨t_server_0 T, (tmk_server_0 T).ok _ _ _ _ _ _ hr, ?_⟩
    obtain ⟨td, tw, tg, tp, ts, h1, h2, h3, h4, h5⟩ := hS.ex
    refine (exE rfl (h1.games (ex4 tg _ _ _ ⟨rfl, SqT.of h4, rfl, ?_⟩)))
    refine (exE rfl (h1.done ⟨td, rfl, ⟨_, SqT.of h2.tup⟩, fun D nD => ?_⟩))
    refine lc_tup (K := K) (a := td) (xs := ts.map V.ref) (fun i H' => Same H H' ∧ H' D = some (.lst (((s.done.take i).map fun x => (x.1 : Int) + (x.2.1 : Int)).map V.int))) ?_ ?_ ?_ ?_
    · exact ⟨Same.new nD, upd_same⟩
    · rintro i H' _ ⟨s1, _⟩
      exact SqT.of (s1 _ _ h2.tup)
    · rintro i x H' hi ⟨s1, hD⟩
      obtain ⟨t, ht, rfl⟩ := ref_get hi
      obtain ⟨y, hy, h3y⟩ := paired_get h2.each ht
      have h3' : H' t = some (.tup [.int y.1, .int y.2.1, .int y.2.2]) := h3y.imm s1.imm
      refine ⟨rfl, exE rfl (ixn (j := 0) (SqT.of h3') rfl rfl (exE rfl (ixn (j := 1) (SqT.of h3') rfl rfl (ii2 ⟨_, hD, ?_, ?_, ?_⟩))))⟩
      · rw [List.length_map, List.length_map, List.length_take, sizeLine_eq]
        omega
      · intro b o e
        rw [upd_ne (ne_of_none e nD)]
        exact s1 _ _ e
      · rw [upd_same, take_more hy, List.map_append, List.map_append]
        rfl
    · rintro H1 ⟨s1, hD⟩
      have hl : ts.length = s.done.length := Paired.length h2.each
      rw [List.length_map, hl, List.take_length] at hD
      refine ⟨D, exE rfl ⟨SqL.of hD, ii2 ?_⟩⟩
      dsimp only [gName]
      refine seq_by (e_server_1 T) (fun σ' H' => ∃ z : Int, σ' = [some (.ref ra), some (.ref sa), some (.int z), none] ∧ Same H H' ∧ z = ((Pd.turns r s : Nat) : Int)) ?_ (fun rest => ?_)
      · rintro σ' H2 ⟨z, rfl, s2, rfl⟩
        have k' := k H2 s2
        rw [← Pd.serves_int] at k'
        exact (exE rfl (ii2 ⟨(by show (0 : Int) < 2; decide), k'⟩))
      · refine (exE rfl (exE rfl (ex4 ra sa r s ⟨rfl, hR.imm s1.imm, hS.imm s1.imm, fun H2 s2 => (exE rfl ?_)⟩)))
        have s12 := s1.trans s2
        have e0 := sum_cast s.done
        refine ite2 (fun c => ?_) (fun c => ?_)
        · have h5' : H2 tp = some (.tup [.int s.pa, .int s.pb]) := h5.imm s12.imm
          refine (exE rfl (exE rfl ((h1.imm s12.imm).points (ex4 tp _ _ _ ⟨rfl, SqT.of h5', rfl, ii2 (ii2 ⟨cdiv2, ii2 (rest _ _ (exE rfl ⟨s12, ?_⟩))⟩)⟩))))
          unfold Pd.turns
          rw [c, if_pos rfl, e0]
          dsimp only
          omega
        · refine rest _ _ (exE rfl ⟨s12, ?_⟩)
          have c' : Ks301.tie r s = false := by simpa using c
          unfold Pd.turns
          rw [c', if_neg (by decide), e0]
          omega
def sp_changes_behind_games : Sp := fun vs H Q _ => ∃ n : Nat, vs = [.int n] ∧ Q (.int (((n + 1) / 2 : Nat) : Int)) H
noncomputable def tmk_changes_behind_games_0 (T : Tx K mg) : Tm K mg ["played"] "changes_behind_games" s_changes_behind_games T.f_changes_behind_games 0 ((defBody s_changes_behind_games).drop 0) :=
  ⟨_, fun cdv A outer s H E hr => pss_end (k := 0) rfl (ps_ret (pe_op op_fdiv (pe_op op_add (pv 0) pe_int) pe_int))⟩
noncomputable def t_changes_behind_games_0 (T : Tx K mg) : TS := (tmk_changes_behind_games_0 T).t
theorem ok_changes_behind_games (T : Tx K mg) : FnOk P w K mg base CX0 1 T.f_changes_behind_games T.d_changes_behind_games ["played"] sp_changes_behind_games := by
  refine T.F_changes_behind_games.ok sc_changes_behind_games (fun vs H Q E h => ?_) (fun cdv A outer s H vs Q E hr h => ?_)
  · obtain ⟨_, rfl, _⟩ := h
    rfl
  · obtain ⟨n, rfl, k⟩ := h
    refine ⟨t_changes_behind_games_0 T, (tmk_changes_behind_games_0 T).ok _ _ _ _ _ _ hr, ?_⟩
    have e : (((n + 1) / 2 : Nat) : Int) = ((n : Int) + 1) / 2 := by omega
    rw [e] at k
    exact (exE rfl (ii2 (ii2 ⟨cdiv2, k⟩)))
def sp_changes_within_tie_break : Sp := fun vs H Q _ => ∃ n : Nat, vs = [.int n] ∧ Q (.int ((Pd.within n : Nat) : Int)) H
noncomputable def tmk_changes_within_tie_break_1 (T : Tx K mg) : Tm K mg ["loser_points", "winner_points"] "changes_within_tie_break" s_changes_within_tie_break T.f_changes_within_tie_break 0 ((defBody s_changes_within_tie_break).drop 1) :=
  ⟨_, fun cdv A outer s H E hr => pss_end (k := 1) rfl (ps_ret (pe_op op_fdiv (pe_op op_sub (pe_op op_add (pv 1) (pv 0)) pe_int) (pe_glob rfl T.v_POINTS_TO_AN_ENDS_CHANGE T.r_POINTS_TO_AN_ENDS_CHANGE)))⟩
noncomputable def t_changes_within_tie_break_1 (T : Tx K mg) : TS := (tmk_changes_within_tie_break_1 T).t
noncomputable def tmk_changes_within_tie_break_0 (T : Tx K mg) : Tm K mg ["loser_points", "winner_points"] "changes_within_tie_break" s_changes_within_tie_break T.f_changes_within_tie_break 0 ((defBody s_changes_within_tie_break).drop 0) :=
  ⟨tSeq _ (t_changes_within_tie_break_1 T), fun cdv A outer s H E hr => pss_at (k := 0) rfl (ps_set (i := 1) sc_changes_within_tie_break.nd rfl (Or.inl rfl) (pe_callB (call_max2 rfl) (by rfl) T.z_max bt_max (pa_cons (pe_glob rfl T.v_TIE_BREAK_POINTS T.r_TIE_BREAK_POINTS) (pa_cons (pe_op op_add (pv 0) (pe_glob rfl T.v_LEAD T.r_LEAD)) pa_nil))))
    ((tmk_changes_within_tie_break_1 T).ok cdv A outer s H E hr)⟩
noncomputable def t_changes_within_tie_break_0 (T : Tx K mg) : TS := (tmk_changes_within_tie_break_0 T).t
theorem ok_changes_within_tie_break (T : Tx K mg) : FnOk P w K mg base CX0 1 T.f_changes_within_tie_break T.d_changes_within_tie_break ["loser_points"] sp_changes_within_tie_break := by
  refine T.F_changes_within_tie_break.ok sc_changes_within_tie_break (fun vs H Q E h => ?_) (fun cdv A outer s H vs Q E hr h => ?_)
  · obtain ⟨_, rfl, _⟩ := h
    rfl
  · obtain ⟨n, rfl, k⟩ := h
    refine ⟨t_changes_within_tie_break_0 T, (tmk_changes_within_tie_break_0 T).ok _ _ _ _ _ _ hr, ?_⟩
    have e : ((Pd.within n : Nat) : Int) = ((if (n : Int) + 2 > 7 then (n : Int) + 2 else 7) + (n : Int) - 1) / 6 := by
      unfold Pd.within
      split <;> omega
    rw [e] at k
    exact (exE rfl (ii2 (ex2 _ _ ⟨rfl, exE rfl (exE rfl (ii2 (ii2 (ii2 ⟨cdiv6, k⟩))))⟩)))
def sp_ends_changed (T : Tx K mg) : Sp := fun vs H Q _ => ∃ (ra sa : Addr) (r : Rules) (s : Score), vs = [.ref ra, .ref sa] ∧ RulesAt T H ra r ∧ ScoreAt T H sa s ∧ Ks301.okSets r [] s.done = true ∧ ∀ H', Same H H' → Q (.bl (Ks302.changed r s)) H'
noncomputable def tmk_ends_changed_3 (T : Tx K mg) : Tm K mg ["rules", "score", "changes", "ended"] "ends_changed" s_ends_changed T.f_ends_changed 2 ((defBody s_ends_changed).drop 3) :=
  ⟨_, fun cdv A outer s H E hr => pss_end (k := 3) rfl (ps_ret (pe_cmpR op_eq (pe_op op_mod (pv 2) pe_int) pe_int (nomark _)))⟩
noncomputable def t_ends_changed_3 (T : Tx K mg) : TS := (tmk_ends_changed_3 T).t
noncomputable def tmk_ends_changed_2 (T : Tx K mg) : Tm K mg ["rules", "score", "changes", "ended"] "ends_changed" s_ends_changed T.f_ends_changed 2 ((defBody s_ends_changed).drop 2) :=
  ⟨tSeq _ (t_ends_changed_3 T), fun cdv A outer s H E hr => pss_at (k := 2) rfl (ps_for PassesOwn.never rfl (show PI _ _ _ (iTup K _) from pi_tup (show PE _ _ (tFld K _ _) from pe_fld (pv 1) rfl)) (pg_name (i := 3) sc_ends_changed.nd rfl (Or.inl rfl)) (pss_cons (ps_set (i := 2) sc_ends_changed.nd rfl (Or.inl rfl) (pe_op op_add (pv 2) (pe_call (ok_changes_behind_games T) (hr.mono (by decide)) rfl T.g_changes_behind_games T.F_changes_behind_games.kp T.b_changes_behind_games .nil pass0 (pa_cons (pe_op op_add (pe_ix (show IxR _ (rIxT K) from ix_tup) (pv 3) pe_int (fun _ _ => rfl)) (pe_ix (show IxR _ (rIxT K) from ix_tup) (pv 3) pe_int (fun _ _ => rfl))) pa_nil))))
      (pss_one (ps_if (pt_val (pe_call (ok_won_by_tie_break T) (hr.mono (by decide)) rfl T.g_won_by_tie_break T.F_won_by_tie_break.kp T.b_won_by_tie_break .nil pass0 (pa_cons (pv 3) pa_nil))) (pss_one (ps_set (i := 2) sc_ends_changed.nd rfl (Or.inl rfl) (pe_op op_add (pv 2) (pe_call (ok_changes_within_tie_break T) (hr.mono (by decide)) rfl T.g_changes_within_tie_break T.F_changes_within_tie_break.kp T.b_changes_within_tie_break .nil pass0 (pa_cons (pe_ix (show IxR _ (rIxT K) from ix_tup) (pv 3) pe_int (fun _ _ => rfl)) pa_nil))))) pss_nil))))
    ((tmk_ends_changed_3 T).ok cdv A outer s H E hr)⟩
noncomputable def t_ends_changed_2 (T : Tx K mg) : TS := (tmk_ends_changed_2 T).t
noncomputable def smk_ends_changed_1 (T : Tx K mg) : Sm K mg ["rules", "score", "changes", "ended"] "ends_changed" s_ends_changed T.f_ends_changed 2 ((defBody s_ends_changed).getD 1 (.Pass ⟨0, 0, 0, 0⟩)) :=
  ⟨_, fun cdv A outer s H E hr => ps_at (k := 1) rfl (ps_if (pt_val (pe_call (ok_in_tie_break T) (hr.mono (by decide)) rfl T.g_in_tie_break T.F_in_tie_break.kp T.b_in_tie_break .nil pass0 (pa_cons (pv 0) (pa_cons (pv 1) pa_nil)))) (pss_one (ps_set (i := 2) sc_ends_changed.nd rfl (Or.inl rfl) (pe_op op_add (pv 2) (pe_op op_fdiv (pe_callB (show CallR _ _ (Pr.rPair K _) from Pr.cr_sumT rfl) (by rfl) T.z_sum bt_sum (pa_cons (show PE _ _ (tFld K _ _) from pe_fld (pv 1) rfl) pa_nil)) (pe_glob rfl T.v_POINTS_TO_AN_ENDS_CHANGE T.r_POINTS_TO_AN_ENDS_CHANGE))))) pss_nil)⟩
noncomputable def u_ends_changed_1 (T : Tx K mg) : TS := (smk_ends_changed_1 T).t
noncomputable def tmk_ends_changed_1 (T : Tx K mg) : Tm K mg ["rules", "score", "changes", "ended"] "ends_changed" s_ends_changed T.f_ends_changed 2 ((defBody s_ends_changed).drop 1) :=
  ⟨tSeq (u_ends_changed_1 T) (t_ends_changed_2 T), fun cdv A outer s H E hr => pss_cut (k := 1) rfl ((smk_ends_changed_1 T).ok cdv A outer s H E hr) ((tmk_ends_changed_2 T).ok cdv A outer s H E hr)⟩
noncomputable def t_ends_changed_1 (T : Tx K mg) : TS := (tmk_ends_changed_1 T).t
theorem e_ends_changed_1 (T : Tx K mg) : t_ends_changed_1 T = tSeq (u_ends_changed_1 T) (t_ends_changed_2 T) := rfl
noncomputable def tmk_ends_changed_0 (T : Tx K mg) : Tm K mg ["rules", "score", "changes", "ended"] "ends_changed" s_ends_changed T.f_ends_changed 2 ((defBody s_ends_changed).drop 0) :=
  ⟨tSeq _ (t_ends_changed_1 T), fun cdv A outer s H E hr => pss_at (k := 0) rfl (ps_set (i := 2) sc_ends_changed.nd rfl (Or.inl rfl) (pe_call (ok_changes_behind_games T) (hr.mono (by decide)) rfl T.g_changes_behind_games T.F_changes_behind_games.kp T.b_changes_behind_games .nil pass0 (pa_cons (pe_callB (show CallR _ _ (Pr.rPair K _) from Pr.cr_sumT rfl) (by rfl) T.z_sum bt_sum (pa_cons (show PE _ _ (tFld K _ _) from pe_fld (pv 1) rfl) pa_nil)) pa_nil)))
    ((tmk_ends_changed_1 T).ok cdv A outer s H E hr)⟩
noncomputable def t_ends_changed_0 (T : Tx K mg) : TS := (tmk_ends_changed_0 T).t
theorem ok_ends_changed (T : Tx K mg) : FnOk P w K mg base CX0 3 T.f_ends_changed T.d_ends_changed ["rules", "score"] (sp_ends_changed T) := by
  refine T.F_ends_changed.ok sc_ends_changed (fun vs H Q E h => ?_) (fun cdv A outer s H vs Q E hr h => ?_)
  · obtain ⟨_, _, _, _, rfl, _⟩ := h
    rfl
  · obtain ⟨ra, sa, r, s, rfl, hR, hS, hok, k⟩ := h
    refine ⟨t_ends_changed_0 T, (tmk_ends_changed_0 T).ok _ _ _ _ _ _ hr, ?_⟩
    obtain ⟨td, tw, tg, tp, ts, h1, h2, h3, h4, h5⟩ := hS.ex
    refine (exE rfl (h1.games (ex4 tg _ _ ((s.ga + s.gb : Nat) : Int) ⟨rfl, SqT.of h4, (by dsimp only; omega), s.ga + s.gb, rfl, ?_⟩)))
    dsimp only [gName]
    refine seq_by (e_ends_changed_1 T) (fun σ' H' => ∃ z : Int, σ' = [some (.ref ra), some (.ref sa), some (.int z), none] ∧ Same H H' ∧ z = ((Pd.moves r s : Nat) : Int)) ?_ (fun rest => ?_)
    · rintro σ' H1 ⟨z, rfl, s1, ez⟩
      refine (exE rfl ((h1.imm s1.imm).done ⟨td, rfl, ⟨_, SqT.of (s1 _ _ h2.tup)⟩, ?_⟩))
      refine for_tup (K := K) (a := td) (xs := ts.map V.ref) (fun i σ' H' => ∃ (v : Option V) (y : Int), σ' = [some (.ref ra), some (.ref sa), some (.int y), v] ∧ Same H H' ∧ y = ((Pd.moves r s + ((s.done.take i).map Pd.chg).sum : Nat) : Int)) ?_ ?_ ?_ ?_
      · exact ⟨_, z, rfl, s1, by rw [ez]; rfl⟩
      · rintro i σ' H' _ ⟨v, y, _, s2, _⟩
        exact SqT.of (s2 _ _ h2.tup)
      · rintro i x σ' H' hi ⟨v, y, rfl, s2, ey⟩
        obtain ⟨t, ht, rfl⟩ := ref_get hi
        obtain ⟨q, hq, h3q⟩ := paired_get h2.each ht
        have h3' : H' t = some (.tup [.int q.1, .int q.2.1, .int q.2.2]) := h3q.imm s2.imm
        have eT : ((s.done.take (i + 1)).map Pd.chg).sum = ((s.done.take i).map Pd.chg).sum + Pd.chg q := by
          rw [take_more hq, List.map_append, List.sum_append]
          simp
        have ec : ((q.1 + q.2.1 : Nat) : Int) = (q.1 : Int) + (q.2.1 : Int) := by omega
        refine (exE rfl (exE rfl (ixn (j := 0) (SqT.of h3') rfl rfl (exE rfl (ixn (j := 1) (SqT.of h3') rfl rfl (ii2 ⟨q.1 + q.2.1, (by rw [ec]; rfl), ii2 ?_⟩))))))
        refine (exE rfl (ex2 t q ⟨rfl, h3q.imm s2.imm, exE rfl ?_⟩))
        refine ite2 (fun c => ?_) (fun c => ?_)
        · refine (exE rfl (exE rfl (ixn (j := 2) (SqT.of h3') rfl rfl ⟨q.2.2, rfl, ii2 (ex2 _ _ ⟨rfl, s2, ?_⟩)⟩)))
          have eq : Pd.chg q = (q.1 + q.2.1 + 1) / 2 + Pd.within q.2.2 := by
            unfold Pd.chg
            rw [c, if_pos rfl]
          omega
        · refine (ex2 _ _ ⟨rfl, s2, ?_⟩)
          have c' : Pd.near q = false := by simpa using c
          have eq : Pd.chg q = (q.1 + q.2.1 + 1) / 2 := by
            unfold Pd.chg
            rw [c', if_neg (by decide)]
            rfl
          omega
      · rintro σ' H2 ⟨v, y, rfl, s2, ey⟩
        have hl : ts.length = s.done.length := Paired.length h2.each
        rw [List.length_map, hl, List.take_length] at ey
        have k' := k H2 s2
        have e : decide (V.int (y % 2) = V.int 1) = Ks302.changed r s := by
          rw [Pd.changed_eq hok, Bool.eq_iff_iff]
          simp
          omega
        rw [← e] at k'
        exact (exE rfl (ii2 ⟨(by show (0 : Int) < 2; decide), rfl, k'⟩))
    · refine (exE rfl (exE rfl (ex4 ra sa r s ⟨rfl, hR, hS, fun H2 s2 => (exE rfl ?_)⟩)))
      refine ite2 (fun c => ?_) (fun c => ?_)
      · have h5' : H2 tp = some (.tup [.int s.pa, .int s.pb]) := h5.imm s2.imm
        refine (exE rfl (exE rfl ((h1.imm s2.imm).points (ex4 tp _ _ _ ⟨rfl, SqT.of h5', rfl, ii2 ⟨cdiv6, ii2 (rest _ _ (exE rfl ⟨s2, ?_⟩))⟩⟩))))
        unfold Pd.moves
        rw [c, if_pos rfl]
        dsimp only
        omega
      · refine rest _ _ (exE rfl ⟨s2, ?_⟩)
        have c' : Ks301.tie r s = false := by simpa using c
        unfold Pd.moves
        rw [c', if_neg (by decide)]
        rfl
def sp_points_needed (T : Tx K mg) : Sp := fun vs H Q _ => ∃ (ra sa : Addr) (r : Rules) (s : Score) (x : Bool), vs = [.ref ra, .ref sa, .int (who x)] ∧ RulesAt T H ra r ∧ ScoreAt T H sa s ∧ Pd.Wf r s ∧ ∀ H', Same H H' → Q (.int ((Ks303.needs r s x 2000 : Nat) : Int)) H'
noncomputable def tmk_points_needed_2 (T : Tx K mg) : Tm K mg ["rules", "score", "who", "needed"] "points_needed" s_points_needed T.f_points_needed 5 ((defBody s_points_needed).drop 2) :=
  ⟨_, fun cdv A outer s H E hr => pss_end (k := 2) rfl (ps_ret (pv 3))⟩
noncomputable def t_points_needed_2 (T : Tx K mg) : TS := (tmk_points_needed_2 T).t
noncomputable def tmk_points_needed_1 (T : Tx K mg) : Tm K mg ["rules", "score", "who", "needed"] "points_needed" s_points_needed T.f_points_needed 5 ((defBody s_points_needed).drop 1) :=
  ⟨tSeq _ (t_points_needed_2 T), fun cdv A outer s H E hr => pss_at (k := 1) rfl (ps_while PassesOwn.never (pt_not (pt_val (pe_call (ok_match_over T) (hr.mono (by decide)) rfl T.g_match_over T.F_match_over.kp T.b_match_over .nil pass0 (pa_cons (pv 0) (pa_cons (pv 1) pa_nil))))) (pss_cons (ps_set (i := 1) sc_points_needed.nd rfl (Or.inl rfl) (pe_call (ok_after_point T) (hr.mono (by decide)) rfl T.g_after_point T.F_after_point.kp T.b_after_point .nil pass0 (pa_cons (pv 0) (pa_cons (pv 1) (pa_cons (pv 2) pa_nil)))))
      (pss_one (ps_set (i := 3) sc_points_needed.nd rfl (Or.inl rfl) (pe_op op_add (pv 3) pe_int)))))
    ((tmk_points_needed_2 T).ok cdv A outer s H E hr)⟩
noncomputable def t_points_needed_1 (T : Tx K mg) : TS := (tmk_points_needed_1 T).t
noncomputable def tmk_points_needed_0 (T : Tx K mg) : Tm K mg ["rules", "score", "who", "needed"] "points_needed" s_points_needed T.f_points_needed 5 ((defBody s_points_needed).drop 0) :=
  ⟨tSeq _ (t_points_needed_1 T), fun cdv A outer s H E hr => pss_at (k := 0) rfl (ps_set (i := 3) sc_points_needed.nd rfl (Or.inl rfl) pe_int)
    ((tmk_points_needed_1 T).ok cdv A outer s H E hr)⟩
noncomputable def t_points_needed_0 (T : Tx K mg) : TS := (tmk_points_needed_0 T).t
theorem ok_points_needed (T : Tx K mg) : FnOk P w K mg base CX0 6 T.f_points_needed T.d_points_needed ["rules", "score", "who"] (sp_points_needed T) := by
  refine T.F_points_needed.ok sc_points_needed (fun vs H Q E h => ?_) (fun cdv A outer s H vs Q E hr h => ?_)
  · obtain ⟨_, _, _, _, _, rfl, _⟩ := h
    rfl
  · obtain ⟨ra, sa, r, s, x, rfl, hR, hS, W, k⟩ := h
    refine ⟨t_points_needed_0 T, (tmk_points_needed_0 T).ok _ _ _ _ _ _ hr, ?_⟩
    refine ⟨fun m σ' H' => ∃ (a : Addr) (u : Score) (n : Nat), σ' = [some (.ref ra), some (.ref a), some (.int (who x)), some (.int n)] ∧ Same H H' ∧ ScoreAt T H' a u ∧ Pd.Wf r u ∧ n + Ks303.needs r u x 2000 = Ks303.needs r s x 2000 ∧ m = Ks303.needs r u x 2000,
      ⟨_, sa, s, 0, rfl, Same.refl _, hS, W, by omega, rfl⟩, ?_⟩
    rintro m σ' H' ⟨a, u, n, rfl, s1, hA, Wu, en, rfl⟩
    refine (exE rfl (exE rfl (ex4 ra a r u ⟨rfl, hR.imm s1.imm, hA, Wu.wa, Wu.wb, exE rfl ?_⟩)))
    refine ite2 (fun c => ?_) (fun c => ?_)
    · have ho : Ks301.over r u.done = false := by simpa using c
      have st := Pd.needs_step (x := x) Wu ho
      refine ⟨fun σ' H' => ∃ (a : Addr), σ' = [some (.ref ra), some (.ref a), some (.int (who x)), some (.int ((n + 1 : Nat) : Int))] ∧ Same H H' ∧ ScoreAt T H' a (Pd.aft r u x), ?_, ?_⟩
      · rintro σ' H2 ⟨b, rfl, s2, hB⟩
        exact ⟨Ks303.needs r (Pd.aft r u x) x 2000, by omega, ex3 b _ (n + 1) ⟨rfl, s2, hB, Pd.wf_aft Wu ho x, by omega, rfl⟩⟩
      · refine (exE rfl (exE rfl (exE rfl (ex5 ra a r u x ⟨rfl, hR.imm s1.imm, hA, Wf_done Wu, fun b H2 s2 hB => ?_⟩))))
        exact (exE rfl (ii2 ⟨b, rfl, s1.trans s2, hB⟩))
    · have ho : Ks301.over r u.done = true := by simpa using c
      have e0 := Pd.needs_over (x := x) ho
      have k' := k H' s1
      rw [show Ks303.needs r s x 2000 = n by omega] at k'
      exact (exE rfl k')
end
end Pt

end
section
set_option Elab.async false
set_option linter.all false
set_option maxRecDepth 100000
set_option maxHeartbeats 2000000
namespace Pt
open PySem PySem.Spec PyProof.Rows L2
open Ks301 (Rules Score)
open Ks303 (Abs act Ans)
open TL (tl tl_append)
/-- the numbers that are answered -/
def av (x : Ans) : List Int := x.ret :: Ks303Neutral.ints x.out
/-- over a text, sign by sign -/
theorem lc_str {z : Str} {g : TG} {tt : TT} {te : TE} {vs : List Nat} {σ : L2.St} {H1 : Hp} {D : Addr} {Qd : Hp → Prop} (Pv : Nat → Hp → Prop) (h0 : Pv 0 (upd H1 D (.lst [])))
    (hs : ∀ (i c : Nat) (H : Hp), (tl z)[i]? = some c → Pv i H → g (.str ⟨#[c]⟩) (wipe σ vs) H fun σ2 H2 => wipe σ2 vs = wipe σ vs ∧ tt σ2 H2 fun b H3 => if b = true then te σ2 H3 fun y H4 => ∃ acc, H4 D = some (.lst acc) ∧ acc.length < sizeLine ∧ Pv (i + 1) (upd H4 D (.lst (acc ++ [y]))) else Pv (i + 1) H3)
    (hd : ∀ H, Pv (tl z).length H → Qd H) : ∃ W : Nat → Nat → Hp → Prop, (∃ m, W 0 m (upd H1 D (.lst []))) ∧ ∀ i m H, W i m H → ((Its z).stop i H ∧ Qd H) ∨ ((Its z).go i H ∧ ∃ Nx : Hp → Prop, (∀ H', Nx H' → ∃ m', m' < m ∧ W (i + 1) m' H') ∧
      ∀ x H', (Its z).yld i H x H' → g x (wipe σ vs) H' fun σ2 H2 => wipe σ2 vs = wipe σ vs ∧ tt σ2 H2 fun b H3 => if b = true then te σ2 H3 fun y H4 => ∃ acc, H4 D = some (.lst acc) ∧ acc.length < sizeLine ∧ Nx (upd H4 D (.lst (acc ++ [y]))) else Nx H3) := by
  have en : (tl z).length = z.cps.size := by rw [← tl_len]; rfl
  refine ⟨fun i m H => i + m = (tl z).length ∧ Pv i H, ⟨_, Nat.zero_add _, h0⟩, ?_⟩
  rintro i m H ⟨hm, p⟩
  cases m with
  | zero =>
    have e : i = (tl z).length := by omega
    refine .inl ⟨?_, hd H (by rw [← e]; exact p)⟩
    show z.cps.size ≤ i
    omega
  | succ m =>
    refine .inr ⟨?_, Pv (i + 1), fun H' p' => ⟨m, Nat.lt_succ_self m, by omega, p'⟩, ?_⟩
    · show i < z.cps.size
      omega
    · rintro x H' ⟨rfl, c, hc, rfl⟩
      exact hs i c _ (by simpa using hc) p
theorem act_score {a : Abs} (on : a.on = true) : act a .score = (a, { ret := (Ks302.text a.rules a.score).length, out := Ks302.text a.rules a.score }) := by
  simp only [act]
  rw [if_neg (by rw [on]; decide)]
theorem act_count {a : Abs} (on : a.on = true) : act a .count = (a, { ret := a.points.length, out := [(a.points.filter fun x => x).length, Ks301.setsOf true a.score.done, Ks301.setsOf false a.score.done] }) := by
  simp only [act]
  rw [if_neg (by rw [on]; decide)]
theorem who_count : ∀ ws : List Bool, (ws.map who).count 0 = ws.countP fun x => x
  | [] => rfl
  | x :: ws => by
    rw [List.map_cons, List.count_cons, List.countP_cons, who_count ws]
    cases x <;> rfl
theorem wv_ints (ws : List Bool) : wv ws = (ws.map who).map V.int := by
  unfold wv
  rw [List.map_map]
  rfl
section
variable {P : Program} {w : World} {K : PySem.W.Frag} {mg : Str → Option Value} {base : Heap}
def sp_Desk_score (T : Tx K mg) : Sp := fun vs H Q _ => ∃ (p lw ls : Addr) (a : Abs), vs = [.ref p] ∧ DeskAt T H p lw ls a ∧ a.on = true ∧ ∀ l H', Same H H' → H l = none → H' l = some (.lst ((av (act a .score).2).map V.int)) → Q (.ref l) H'
noncomputable def tmk_Desk_score_1 (T : Tx K mg) : Tm K mg ["self", "text", "sign"] "Desk.score" s_Desk_score T.f_Desk_score 4 ((defBody s_Desk_score).drop 1) :=
  ⟨_, fun cdv A outer s H E hr => pss_end (k := 1) rfl (ps_ret (pe_op op_cat (pe_lst (pa_cons (pe_callB call_len_str (by rfl) T.z_len bt_len (pa_cons (pv 1) pa_nil)) pa_nil)) (pe_lc rfl sc_Desk_score.nd (pi_str (pv 1)) (blkOk_by (own := [("sign", 2)]) (by show blkC ["self", "text", "sign"] (defScope s_Desk_score) _ _ = true; decide +kernel)) (fun _ _ _ _ _ => pg_name (i := 2) sc_Desk_score.nd rfl (Or.inl rfl)) (fun _ _ _ _ _ => pts_nil) (fun _ _ _ _ _ => (pe_callB call_ord (by rfl) T.z_ord bt_ord (pa_cons (pv 2) pa_nil))))))⟩
noncomputable def t_Desk_score_1 (T : Tx K mg) : TS := (tmk_Desk_score_1 T).t
noncomputable def tmk_Desk_score_0 (T : Tx K mg) : Tm K mg ["self", "text", "sign"] "Desk.score" s_Desk_score T.f_Desk_score 4 ((defBody s_Desk_score).drop 0) :=
  ⟨tSeq _ (t_Desk_score_1 T), fun cdv A outer s H E hr => pss_at (k := 0) rfl (ps_set (i := 1) sc_Desk_score.nd rfl (Or.inl rfl) (pe_call (ok_score_text T) (hr.mono (by decide)) rfl T.g_score_text T.F_score_text.kp T.b_score_text .nil pass0 (pa_cons (show PE _ _ (tFld K _ _) from pe_fld (pv 0) rfl) (pa_cons (pe_ix (show IxR _ (rIxL K) from ix_list) (show PE _ _ (tFld K _ _) from pe_fld (pv 0) rfl) (pe_un un_neg pe_int) (fun _ _ => rfl)) pa_nil))))
    ((tmk_Desk_score_1 T).ok cdv A outer s H E hr)⟩
noncomputable def t_Desk_score_0 (T : Tx K mg) : TS := (tmk_Desk_score_0 T).t
theorem ok_Desk_score (T : Tx K mg) : FnOk P w K mg base CX0 5 T.f_Desk_score T.d_Desk_score ["self"] (sp_Desk_score T) := by
  refine T.F_Desk_score.ok sc_Desk_score (fun vs H Q E h => ?_) (fun cdv A outer s H vs Q E hr h => ?_)
  · obtain ⟨_, _, _, _, rfl, _⟩ := h
    rfl
  · obtain ⟨p, lw, ls, a, rfl, D, on, k⟩ := h
    refine ⟨t_Desk_score_0 T, (tmk_Desk_score_0 T).ok _ _ _ _ _ _ hr, ?_⟩
    obtain ⟨vr, ws, ts, as, D1, I, hS, hoff, hon⟩ := D.ex
    obtain ⟨ra, rfl, hR⟩ := hon on
    have W := I.wf on
    have B := I.bd on
    obtain ⟨ts', ets, htl⟩ := I.split on
    rw [ets] at hS
    obtain ⟨as', sa, eas, hS', hA⟩ := paired_last hS
    subst eas
    refine (exE rfl (D1.rules (exE rfl (D1.scores (exE rfl (ixv (SqL.of D1.sco) (last_of as' sa) (ex4 ra sa a.rules a.score ⟨rfl, hR, hA, W, B, fun z H1 s1 ez => ?_⟩)))))))
    have hlen : (tl z).length ≤ 104 := by
      rw [ez, Pd.text_eq B.sets]
      have := Pd.parts_small W
      have := Pd.jn_len _ this.2
      omega
    refine (exE rfl ⟨z, rfl, short rfl (by omega), (sz rfl), fun q nq => ?_⟩)
    generalize hU : upd _ q _ = H2
    obtain ⟨s2, hq⟩ := new_of nq hU
    refine (exE rfl ⟨z, rfl, fun D nD => ?_⟩)
    refine lc_str (fun i H' => Same H2 H' ∧ H' D = some (.lst (((tl z).take i).map fun (c : Nat) => V.int (c : Int)))) ?_ ?_ ?_
    · exact ⟨Same.new nD, upd_same⟩
    · rintro i c H' hi ⟨s3, hD⟩
      refine ⟨rfl, exE rfl ⟨⟨#[c]⟩, rfl, rfl, _, hD, ?_, ?_, ?_⟩⟩
      · rw [List.length_map, List.length_take, sizeLine_eq]
        omega
      · intro b o e
        rw [upd_ne (ne_of_none e nD)]
        exact s3 _ _ e
      · rw [upd_same, take_more hi, List.map_append]
        rfl
    · rintro H3 ⟨s3, hD⟩
      rw [List.take_length] at hD
      refine ⟨q, D, ex2 _ _ ⟨rfl, rfl, s3 _ _ hq, hD, (by rw [List.length_map, sizeLine_eq]; show 1 + _ ≤ _; omega), fun l nl => ?_⟩⟩
      generalize hV : upd _ l _ = H4
      obtain ⟨s4, hl⟩ := new_of nl hV
      have s13 := (s1.trans s2).trans s3
      refine k l H4 (s13.trans s4) (s13.free nl) ?_
      rw [hl, act_score on]
      unfold av Ks303Neutral.ints
      rw [← ez, tl_len, List.map_cons, List.map_map]
      rfl
def sp_Desk_counts (T : Tx K mg) : Sp := fun vs H Q _ => ∃ (p lw ls : Addr) (a : Abs), vs = [.ref p] ∧ DeskAt T H p lw ls a ∧ a.on = true ∧ ∀ l H', Same H H' → H l = none → H' l = some (.lst ((av (act a .count).2).map V.int)) → Q (.ref l) H'
noncomputable def tmk_Desk_counts_0 (T : Tx K mg) : Tm K mg ["self"] "Desk.counts" s_Desk_counts T.f_Desk_counts 0 ((defBody s_Desk_counts).drop 0) :=
  ⟨_, fun cdv A outer s H E hr => pss_end (k := 0) rfl (ps_ret (pe_op op_cat (pe_lst (pa_cons (pe_callB (show CallR _ _ (Pr.rLen K) from call_len_seq) (by rfl) T.z_len bt_len (pa_cons (show PE _ _ (tFld K _ _) from pe_fld (pv 0) rfl) pa_nil)) (pa_cons (show PE _ _ (tBM K _ _ _ _) from pe_bm PySem.F.plainAttrs_list PySem.F.slot_list_count PySem.F.type_list_count (show MtR _ _ (Pr.rCountL K) from Pr.mt_countL) (show PE _ _ (tFld K _ _) from pe_fld (pv 0) rfl) (pa_cons pe_int pa_nil)) pa_nil))) (pe_callTy (show CallR _ _ (Pr.rListOf K) from call_list_of) (by rfl) T.z_list bt_list (pa_cons (show PE _ _ (tFld K _ _) from pe_fld (pe_ix (show IxR _ (rIxL K) from ix_list) (show PE _ _ (tFld K _ _) from pe_fld (pv 0) rfl) (pe_un un_neg pe_int) (fun _ _ => rfl)) rfl) pa_nil))))⟩
noncomputable def t_Desk_counts_0 (T : Tx K mg) : TS := (tmk_Desk_counts_0 T).t
theorem ok_Desk_counts (T : Tx K mg) : FnOk P w K mg base CX0 1 T.f_Desk_counts T.d_Desk_counts ["self"] (sp_Desk_counts T) := by
  refine T.F_Desk_counts.ok sc_Desk_counts (fun vs H Q E h => ?_) (fun cdv A outer s H vs Q E hr h => ?_)
  · obtain ⟨_, _, _, _, rfl, _⟩ := h
    rfl
  · obtain ⟨p, lw, ls, a, rfl, D, on, k⟩ := h
    refine ⟨t_Desk_counts_0 T, (tmk_Desk_counts_0 T).ok _ _ _ _ _ _ hr, ?_⟩
    obtain ⟨vr, ws, ts, as, D1, I, hS, hoff, hon⟩ := D.ex
    obtain ⟨ra, rfl, hR⟩ := hon on
    obtain ⟨ts', ets, htl⟩ := I.split on
    rw [ets] at hS
    obtain ⟨as', sa, eas, hS', hA⟩ := paired_last hS
    subst eas
    have hw : H lw = some (.lst ((ws.map who).map V.int)) := by rw [D1.win, wv_ints]
    refine (exE rfl (D1.winners (ex2 lw _ ⟨rfl, .inl (SqL.of hw), exE rfl (D1.winners ⟨.inl ⟨rfl, _, SqL.of hw⟩, ex3 lw (ws.map who) 0 ⟨rfl, rfl, SqL.of hw, (sz rfl), fun q nq => ?_⟩⟩)⟩)))
    generalize hU : upd _ q _ = H1
    obtain ⟨s1, hq⟩ := new_of nq hU
    have D2 := D1.same s1
    obtain ⟨td, tw, tg, tp, us, h1, h2, h3, h4, h5⟩ := (hA.imm s1.imm).ex
    refine (exE rfl (D2.scores (exE rfl (ixv (SqL.of D2.sco) (last_of as' sa) (h1.won (ex2 tw _ ⟨rfl, .inr (SqT.of h3), fun D nD => ?_⟩))))))
    generalize hU2 : upd _ D _ = H2
    obtain ⟨s2, hD⟩ := new_of nD hU2
    refine ⟨q, D, ex2 _ _ ⟨rfl, rfl, s2 _ _ hq, hD, (by show 2 + 2 ≤ sizeLine; decide), fun l nl => ?_⟩⟩
    generalize hV : upd _ l _ = H4
    obtain ⟨s4, hl⟩ := new_of nl hV
    have s12 := s1.trans s2
    refine k l H4 (s12.trans s4) (s12.free nl) ?_
    have e1 : a.points.length = ws.length := by rw [I.pts, List.length_reverse]
    have e2 : (a.points.filter fun x => x).length = ws.countP fun x => x := by rw [I.pts, Pd.count_eq]
    rw [hl, act_count on, e1, e2]
    show some (HO.lst ([V.int (((ws.map who).map V.int).length : Nat), V.int (((ws.map who).count 0 : Nat) : Int)] ++ _)) = _
    rw [List.length_map, List.length_map, who_count]
    rfl
def sp_Desk_serving (T : Tx K mg) : Sp := fun vs H Q _ => ∃ (p lw ls : Addr) (a : Abs), vs = [.ref p] ∧ DeskAt T H p lw ls a ∧ a.on = true ∧ ∀ H', Same H H' → Q (.int (act a .next).2.ret) H'
noncomputable def tmk_Desk_serving_2 (T : Tx K mg) : Tm K mg ["self", "score"] "Desk.serving" s_Desk_serving T.f_Desk_serving 3 ((defBody s_Desk_serving).drop 2) :=
  ⟨_, fun cdv A outer s H E hr => pss_end (k := 2) rfl (ps_ret (pe_op op_add (pe_call (ok_server T) (hr.mono (by decide)) rfl T.g_server T.F_server.kp T.b_server .nil pass0 (pa_cons (show PE _ _ (tFld K _ _) from pe_fld (pv 0) rfl) (pa_cons (pv 1) pa_nil))) (pe_ifExp (pt_val (pe_call (ok_ends_changed T) (hr.mono (by decide)) rfl T.g_ends_changed T.F_ends_changed.kp T.b_ends_changed .nil pass0 (pa_cons (show PE _ _ (tFld K _ _) from pe_fld (pv 0) rfl) (pa_cons (pv 1) pa_nil)))) (pe_glob rfl T.v_CHANGED_ENDS T.r_CHANGED_ENDS) pe_int)))⟩
noncomputable def t_Desk_serving_2 (T : Tx K mg) : TS := (tmk_Desk_serving_2 T).t
noncomputable def tmk_Desk_serving_1 (T : Tx K mg) : Tm K mg ["self", "score"] "Desk.serving" s_Desk_serving T.f_Desk_serving 3 ((defBody s_Desk_serving).drop 1) :=
  ⟨tSeq _ (t_Desk_serving_2 T), fun cdv A outer s H E hr => pss_at (k := 1) rfl (ps_if (pt_val (pe_call (ok_match_over T) (hr.mono (by decide)) rfl T.g_match_over T.F_match_over.kp T.b_match_over .nil pass0 (pa_cons (show PE _ _ (tFld K _ _) from pe_fld (pv 0) rfl) (pa_cons (pv 1) pa_nil)))) (pss_one (ps_ret (pe_glob rfl T.v_MATCH_IS_OVER T.r_MATCH_IS_OVER))) pss_nil)
    ((tmk_Desk_serving_2 T).ok cdv A outer s H E hr)⟩
noncomputable def t_Desk_serving_1 (T : Tx K mg) : TS := (tmk_Desk_serving_1 T).t
noncomputable def tmk_Desk_serving_0 (T : Tx K mg) : Tm K mg ["self", "score"] "Desk.serving" s_Desk_serving T.f_Desk_serving 3 ((defBody s_Desk_serving).drop 0) :=
  ⟨tSeq _ (t_Desk_serving_1 T), fun cdv A outer s H E hr => pss_at (k := 0) rfl (ps_set (i := 1) sc_Desk_serving.nd rfl (Or.inl rfl) (pe_ix (show IxR _ (rIxL K) from ix_list) (show PE _ _ (tFld K _ _) from pe_fld (pv 0) rfl) (pe_un un_neg pe_int) (fun _ _ => rfl)))
    ((tmk_Desk_serving_1 T).ok cdv A outer s H E hr)⟩
noncomputable def t_Desk_serving_0 (T : Tx K mg) : TS := (tmk_Desk_serving_0 T).t
theorem ok_Desk_serving (T : Tx K mg) : FnOk P w K mg base CX0 4 T.f_Desk_serving T.d_Desk_serving ["self"] (sp_Desk_serving T) := by
  refine T.F_Desk_serving.ok sc_Desk_serving (fun vs H Q E h => ?_) (fun cdv A outer s H vs Q E hr h => ?_)
  · obtain ⟨_, _, _, _, rfl, _⟩ := h
    rfl
  · obtain ⟨p, lw, ls, a, rfl, D, on, k⟩ := h
    refine ⟨t_Desk_serving_0 T, (tmk_Desk_serving_0 T).ok _ _ _ _ _ _ hr, ?_⟩
    obtain ⟨vr, ws, ts, as, D1, I, hS, hoff, hon⟩ := D.ex
    obtain ⟨ra, rfl, hR⟩ := hon on
    have W := I.wf on
    have B := I.bd on
    obtain ⟨ts', ets, htl⟩ := I.split on
    rw [ets] at hS
    obtain ⟨as', sa, eas, hS', hA⟩ := paired_last hS
    subst eas
    refine (exE rfl (D1.scores (exE rfl (ixv (SqL.of D1.sco) (last_of as' sa) ?_))))
    refine (exE rfl (D1.rules (exE rfl (ex4 ra sa a.rules a.score ⟨rfl, hR, hA, W.wa, W.wb, exE rfl ?_⟩))))
    refine ite2 (fun c => ?_) (fun c => ?_)
    · have e : act a .next = (a, Ks303.no (-17)) := by
        simp only [act]
        rw [if_neg (by rw [on]; decide), if_pos c]
      rw [e] at k
      exact k H (Same.refl _)
    · have e : act a .next = (a, Ks303.no ((if Ks302.serves a.rules a.score = true then 0 else 1) + (if Ks302.changed a.rules a.score = true then 2 else 0))) := by
        simp only [act]
        rw [if_neg (by rw [on]; decide), if_neg c]
      rw [e] at k
      refine (exE rfl (D1.rules (exE rfl (ex4 ra sa a.rules a.score ⟨rfl, hR, hA, Wf_done W, fun H1 s1 => ?_⟩))))
      refine (exE rfl ((D1.same s1).rules (exE rfl (ex4 ra sa a.rules a.score ⟨rfl, hR.imm s1.imm, hA.imm s1.imm, B.sets, fun H2 s2 => (exE rfl ?_)⟩))))
      have k' := k H2 (s1.trans s2)
      refine ite2 (fun c2 => ?_) (fun c2 => ?_)
      · rw [if_pos c2] at k'
        exact (ii2 (k'))
      · rw [if_neg c2] at k'
        exact (ii2 (k'))
def sp_Desk_need (T : Tx K mg) : Sp := fun vs H Q _ => ∃ (p lw ls : Addr) (a : Abs) (n : Nat), vs = [.ref p, .int n] ∧ DeskAt T H p lw ls a ∧ a.on = true ∧ ∀ H', Same H H' → Q (.int (act a (.need n)).2.ret) H'
noncomputable def tmk_Desk_need_2 (T : Tx K mg) : Tm K mg ["self", "who"] "Desk.need" s_Desk_need T.f_Desk_need 6 ((defBody s_Desk_need).drop 2) :=
  ⟨_, fun cdv A outer s H E hr => pss_end (k := 2) rfl (ps_ret (pe_call (ok_points_needed T) (hr.mono (by decide)) rfl T.g_points_needed T.F_points_needed.kp T.b_points_needed .nil pass0 (pa_cons (show PE _ _ (tFld K _ _) from pe_fld (pv 0) rfl) (pa_cons (pe_ix (show IxR _ (rIxL K) from ix_list) (show PE _ _ (tFld K _ _) from pe_fld (pv 0) rfl) (pe_un un_neg pe_int) (fun _ _ => rfl)) (pa_cons (pv 1) pa_nil)))))⟩
noncomputable def t_Desk_need_2 (T : Tx K mg) : TS := (tmk_Desk_need_2 T).t
noncomputable def tmk_Desk_need_1 (T : Tx K mg) : Tm K mg ["self", "who"] "Desk.need" s_Desk_need T.f_Desk_need 6 ((defBody s_Desk_need).drop 1) :=
  ⟨tSeq _ (t_Desk_need_2 T), fun cdv A outer s H E hr => pss_at (k := 1) rfl (ps_if (pt_val (pe_call (ok_match_over T) (hr.mono (by decide)) rfl T.g_match_over T.F_match_over.kp T.b_match_over .nil pass0 (pa_cons (show PE _ _ (tFld K _ _) from pe_fld (pv 0) rfl) (pa_cons (pe_ix (show IxR _ (rIxL K) from ix_list) (show PE _ _ (tFld K _ _) from pe_fld (pv 0) rfl) (pe_un un_neg pe_int) (fun _ _ => rfl)) pa_nil)))) (pss_one (ps_ret (pe_glob rfl T.v_MATCH_IS_OVER T.r_MATCH_IS_OVER))) pss_nil)
    ((tmk_Desk_need_2 T).ok cdv A outer s H E hr)⟩
noncomputable def t_Desk_need_1 (T : Tx K mg) : TS := (tmk_Desk_need_1 T).t
noncomputable def tmk_Desk_need_0 (T : Tx K mg) : Tm K mg ["self", "who"] "Desk.need" s_Desk_need T.f_Desk_need 6 ((defBody s_Desk_need).drop 0) :=
  ⟨tSeq _ (t_Desk_need_1 T), fun cdv A outer s H E hr => pss_at (k := 0) rfl (ps_if (pt_cmpR op_gt (pv 1) pe_int (nomark _)) (pss_one (ps_ret (pe_glob rfl T.v_OUT_OF_RANGE T.r_OUT_OF_RANGE))) pss_nil)
    ((tmk_Desk_need_1 T).ok cdv A outer s H E hr)⟩
noncomputable def t_Desk_need_0 (T : Tx K mg) : TS := (tmk_Desk_need_0 T).t
theorem ok_Desk_need (T : Tx K mg) : FnOk P w K mg base CX0 7 T.f_Desk_need T.d_Desk_need ["self", "who"] (sp_Desk_need T) := by
  refine T.F_Desk_need.ok sc_Desk_need (fun vs H Q E h => ?_) (fun cdv A outer s H vs Q E hr h => ?_)
  · obtain ⟨_, _, _, _, _, rfl, _⟩ := h
    rfl
  · obtain ⟨p, lw, ls, a, n, rfl, D, on, k⟩ := h
    refine ⟨t_Desk_need_0 T, (tmk_Desk_need_0 T).ok _ _ _ _ _ _ hr, ?_⟩
    obtain ⟨vr, ws, ts, as, D1, I, hS, hoff, hon⟩ := D.ex
    obtain ⟨ra, rfl, hR⟩ := hon on
    have W := I.wf on
    obtain ⟨ts', ets, htl⟩ := I.split on
    rw [ets] at hS
    obtain ⟨as', sa, eas, hS', hA⟩ := paired_last hS
    subst eas
    refine (exE rfl (ii2 (exE rfl ?_)))
    refine ite2 (fun c => ?_) (fun c => ?_)
    · have e : act a (.need n) = (a, Ks303.no (-22)) := by
        simp only [act]
        rw [if_neg (by rw [on]; decide), if_pos (by simp at c; omega)]
      rw [e] at k
      exact k H (Same.refl _)
    have hn : ¬ 1 < n := by simp at c; omega
    refine (exE rfl (D1.rules (exE rfl (D1.scores (exE rfl (ixv (SqL.of D1.sco) (last_of as' sa) (ex4 ra sa a.rules a.score ⟨rfl, hR, hA, W.wa, W.wb, exE rfl ?_⟩)))))))
    refine ite2 (fun c => ?_) (fun c => ?_)
    · have e : act a (.need n) = (a, Ks303.no (-17)) := by
        simp only [act]
        rw [if_neg (by rw [on]; decide), if_neg hn, if_pos c]
      rw [e] at k
      exact k H (Same.refl _)
    · have e : act a (.need n) = (a, Ks303.no (Ks303.needs a.rules a.score (n == 0) 2000)) := by
        simp only [act]
        rw [if_neg (by rw [on]; decide), if_neg hn, if_neg c]
      rw [e] at k
      rw [who_nat hn]
      exact (exE rfl (D1.rules (exE rfl (D1.scores (exE rfl (ixv (SqL.of D1.sco) (last_of as' sa) (exE rfl (ex5 ra sa a.rules a.score (n == 0) ⟨rfl, hR, hA, W, fun H1 s1 => k H1 s1⟩))))))))
end
end Pt

end
section
set_option Elab.async false
set_option linter.all false
set_option maxRecDepth 100000
set_option maxHeartbeats 2000000
namespace Pt
open PySem PySem.Spec PyProof.Rows L2
open Ks301 (Rules Score)
open Ks303 (Abs act Ans)
open PyFlat (put put1 told played)
open Ks303Neutral (step)
theorem at_drop {ns xs : List Int} {i j : Nat} {v : Int} (h : ns.drop i = xs) (e : xs[j]? = some v) : (ns.map V.int)[i + j]? = some (.int v) := by
  rw [List.getElem?_map]
  have q : ns[i + j]? = xs[j]? := by rw [← h, List.getElem?_drop]
  rw [q, e]
  rfl
theorem put_told (done now : List Nat) : put1 [[1], done.map Int.ofNat, now.map Int.ofNat] = 1 :: (done.length : Int) :: (done.map Int.ofNat ++ (now.length : Int) :: now.map Int.ofNat) := by
  show [1] ++ ((((done.map Int.ofNat).length : Int) :: done.map Int.ofNat) ++ ((((now.map Int.ofNat).length : Int) :: now.map Int.ofNat) ++ [])) = _
  rw [List.length_map, List.length_map]
  simp
theorem ofNat_list : ∀ l : List Nat, (l.map Int.ofNat).map Int.toNat = l
  | [] => rfl
  | x :: l => by
    rw [List.map_cons, List.map_cons, ofNat_list l]
    rfl
/-! ### the calls as the specification's steps -/
theorem st_begin (a : Abs) (x y u v : Nat) : step a [[0, (x : Int), (y : Int), (u : Int), (v : Int)]] = ((act a (.begin ⟨x, y, u != 0, v != 0⟩)).1, av (act a (.begin ⟨x, y, u != 0, v != 0⟩)).2) := rfl
theorem st_told (a : Abs) (done now : List Nat) : step a [[1], done.map Int.ofNat, now.map Int.ofNat] = ((act a (.told (Ks303Neutral.scoreOf done now))).1, av (act a (.told (Ks303Neutral.scoreOf done now))).2) := by
  show Ks303Neutral.sa (act a (.told (Ks303Neutral.scoreOf ((done.map Int.ofNat).map Int.toNat) ((now.map Int.ofNat).map Int.toNat)))) = _
  rw [ofNat_list, ofNat_list]
  rfl
theorem st_point (a : Abs) (x : Nat) : step a [[2, (x : Int)]] = ((act a (.point x)).1, av (act a (.point x)).2) := rfl
theorem st_back (a : Abs) : step a [[3]] = ((act a .back).1, av (act a .back).2) := rfl
theorem st_right (a : Abs) (x : Nat) : step a [[4, (x : Int)]] = ((act a (.right x)).1, av (act a (.right x)).2) := rfl
theorem st_score (a : Abs) : step a [[5]] = ((act a .score).1, av (act a .score).2) := rfl
theorem st_next (a : Abs) : step a [[6]] = ((act a .next).1, av (act a .next).2) := rfl
theorem st_need (a : Abs) (x : Nat) : step a [[7, (x : Int)]] = ((act a (.need x)).1, av (act a (.need x)).2) := rfl
theorem st_count (a : Abs) : step a [[8]] = ((act a .count).1, av (act a .count).2) := rfl
/-- one number alone is answered -/
theorem out_begin (a : Abs) (r : Rules) : (act a (.begin r)).2.out = [] := by
  simp only [act]
  split <;> rfl
theorem out_told (a : Abs) (s : Score) : (act a (.told s)).2.out = [] := by
  simp only [act]
  (repeat' split) <;> rfl
theorem out_point (a : Abs) (n : Nat) : (act a (.point n)).2.out = [] := by
  simp only [act]
  (repeat' split) <;> rfl
theorem out_back (a : Abs) : (act a .back).2.out = [] := by
  simp only [act]
  (repeat' split) <;> rfl
theorem out_right (a : Abs) (n : Nat) : (act a (.right n)).2.out = [] := by
  simp only [act]
  (repeat' split) <;> rfl
theorem out_next (a : Abs) : (act a .next).2.out = [] := by
  simp only [act]
  (repeat' split) <;> rfl
theorem out_need (a : Abs) (n : Nat) : (act a (.need n)).2.out = [] := by
  simp only [act]
  (repeat' split) <;> rfl
theorem same_next (a : Abs) : (act a .next).1 = a := by
  simp only [act]
  (repeat' split) <;> rfl
theorem same_need (a : Abs) (n : Nat) : (act a (.need n)).1 = a := by
  simp only [act]
  (repeat' split) <;> rfl
theorem same_score (a : Abs) : (act a .score).1 = a := by
  simp only [act]
  split <;> rfl
theorem same_count (a : Abs) : (act a .count).1 = a := by
  simp only [act]
  split <;> rfl
theorem av_one {x : Ans} (h : x.out = []) : av x = [x.ret] := by
  unfold av
  rw [h]
  rfl
section
variable {P : Program} {w : World} {K : PySem.W.Frag} {mg : Str → Option Value} {base : Heap}
def sp_call_length (K : PySem.W.Frag) : Sp := fun vs H Q _ => ∃ (ca : Addr) (ns : List Int) (i : Nat) (c : List (List Int)) (rest : List Int), vs = [.ref ca, .int i] ∧ SqL K H ca (ns.map V.int) ∧ ns.drop i = put1 c ++ rest ∧ Pd.Is c ∧ Q (.int (((put1 c).length : Nat) : Int)) H
noncomputable def tmk_call_length_2 (T : Tx K mg) : Tm K mg ["calls", "place", "now_place"] "call_length" s_call_length T.f_call_length 0 ((defBody s_call_length).drop 2) :=
  ⟨_, fun cdv A outer s H E hr => pss_end (k := 2) rfl (ps_ret (pe_op op_add (pe_op op_add (pv 2) pe_int) (pe_ix (show IxR _ (rIxL K) from ix_list) (pv 0) (pe_op op_add (pv 1) (pv 2)) (fun _ _ => rfl))))⟩
noncomputable def t_call_length_2 (T : Tx K mg) : TS := (tmk_call_length_2 T).t
noncomputable def tmk_call_length_1 (T : Tx K mg) : Tm K mg ["calls", "place", "now_place"] "call_length" s_call_length T.f_call_length 0 ((defBody s_call_length).drop 1) :=
  ⟨tSeq _ (t_call_length_2 T), fun cdv A outer s H E hr => pss_at (k := 1) rfl (ps_set (i := 2) sc_call_length.nd rfl (Or.inl rfl) (pe_op op_add pe_int (pe_ix (show IxR _ (rIxL K) from ix_list) (pv 0) (pe_op op_add (pv 1) pe_int) (fun _ _ => rfl))))
    ((tmk_call_length_2 T).ok cdv A outer s H E hr)⟩
noncomputable def t_call_length_1 (T : Tx K mg) : TS := (tmk_call_length_1 T).t
noncomputable def tmk_call_length_0 (T : Tx K mg) : Tm K mg ["calls", "place", "now_place"] "call_length" s_call_length T.f_call_length 0 ((defBody s_call_length).drop 0) :=
  ⟨tSeq _ (t_call_length_1 T), fun cdv A outer s H E hr => pss_at (k := 0) rfl (ps_if (pt_cmpR op_ne (pe_ix (show IxR _ (rIxL K) from ix_list) (pv 0) (pv 1) (fun _ _ => rfl)) (pe_glob rfl T.v_TOLD T.r_TOLD) (nomark _)) (pss_one (ps_ret (Pr.pe_dgetK T.D_CALL_LENGTHS (pe_glob (v := .ref T.p_CALL_LENGTHS) rfl T.v_CALL_LENGTHS rfl) (pe_ix (show IxR _ (rIxL K) from ix_list) (pv 0) (pv 1) (fun _ _ => rfl)) (fun _ _ => rfl)))) pss_nil)
    ((tmk_call_length_1 T).ok cdv A outer s H E hr)⟩
noncomputable def t_call_length_0 (T : Tx K mg) : TS := (tmk_call_length_0 T).t
theorem ok_call_length (T : Tx K mg) : FnOk P w K mg base CX0 1 T.f_call_length T.d_call_length ["calls", "place"] (sp_call_length K) := by
  refine T.F_call_length.ok sc_call_length (fun vs H Q E h => ?_) (fun cdv A outer s H vs Q E hr h => ?_)
  · obtain ⟨_, _, _, _, _, rfl, _⟩ := h
    rfl
  · obtain ⟨ca, ns, i, c, rest, rfl, hs, hd, hc, k⟩ := h
    refine ⟨t_call_length_0 T, (tmk_call_length_0 T).ok _ _ _ _ _ _ hr, ?_⟩
    have short : ∀ {n l : Int}, (ns.map V.int)[i + 0]? = some (.int n) → decide (V.int n = V.int 1) = false → List.lookup n [((0 : Int), (5 : Int)), (2, 2), (3, 1), (4, 2), (5, 1), (6, 1), (7, 2), (8, 1)] = some l → Q (.int l) H → t_call_length_0 T { nx := fun x H' => Q V.non H', rt := Q } (L2.start ["calls", "place", "now_place"] [.ref ca, .int i]) H := by
      intro n l g0 h1 hl k
      refine (exE rfl (exE rfl (ixv hs (at_of (j := i + 0) rfl g0) ⟨rfl, exE rfl ?_⟩)))
      rw [h1]
      exact iteT (exE rfl (exE rfl (ixv hs (at_of (j := i + 0) rfl g0) (ex2 _ _ ⟨rfl, rfl, hl, k⟩))))
    cases hc with
    | told done now h3 h4 =>
      rw [put_told] at hd k
      have g0 := at_drop (j := 0) hd rfl
      have g1 := at_drop (j := 1) hd rfl
      have g2 : (ns.map V.int)[i + (2 + done.length)]? = some (.int (now.length : Int)) := by
        refine at_drop hd ?_
        rw [show 2 + done.length = done.length + 1 + 1 by omega]
        show ((done.map Int.ofNat ++ (now.length : Int) :: now.map Int.ofNat) ++ rest)[done.length]? = _
        rw [List.append_assoc, List.getElem?_append_right (by rw [List.length_map]; exact Nat.le_refl _), List.length_map, Nat.sub_self]
        rfl
      have i2 : (i : Int) + (2 + (done.length : Int)) = ((i + (2 + done.length) : Nat) : Int) := by omega
      refine (exE rfl (exE rfl (ixv hs (at_of (j := i + 0) rfl g0) ⟨rfl, exE rfl (iteF ?_)⟩)))
      refine (exE rfl (exE rfl (ii2 (ixv hs (at_of (j := i + 1) rfl g1) (ii2 ?_)))))
      refine (exE rfl (ii2 (exE rfl (exE rfl (exE rfl (ii2 (ixv hs (at_of (j := i + (2 + done.length)) i2 g2) (ii2 ?_))))))))
      have e : (((1 :: (done.length : Int) :: (done.map Int.ofNat ++ (now.length : Int) :: now.map Int.ofNat)).length : Nat) : Int) = 2 + (done.length : Int) + 1 + (now.length : Int) := by
        simp
        omega
      rw [e] at k
      exact k
    | begin a b d e =>
      exact short (at_drop (j := 0) hd rfl) rfl rfl k
    | point x =>
      exact short (at_drop (j := 0) hd rfl) rfl rfl k
    | back =>
      exact short (at_drop (j := 0) hd rfl) rfl rfl k
    | right x =>
      exact short (at_drop (j := 0) hd rfl) rfl rfl k
    | score =>
      exact short (at_drop (j := 0) hd rfl) rfl rfl k
    | next =>
      exact short (at_drop (j := 0) hd rfl) rfl rfl k
    | need x =>
      exact short (at_drop (j := 0) hd rfl) rfl rfl k
    | count =>
      exact short (at_drop (j := 0) hd rfl) rfl rfl k
end
end Pt

end
section
set_option Elab.async false
set_option linter.all false
set_option maxRecDepth 100000
set_option maxHeartbeats 2000000
namespace Pt
open PySem PySem.Spec PyProof.Rows L2
open Ks301 (Rules Score)
open Ks303 (Abs act Ans)
open PyFlat (put put1 told played)
open Ks303Neutral (step)
theorem off_step {a : Abs} {c : List (List Int)} (hc : Pd.Is c) (off : a.on = false) {n : Int} {xs : List Int} (e : put1 c = n :: xs) (h : n ≠ 0 ∧ n ≠ 3 ∧ n ≠ 4) : step a c = (a, [-61]) := by
  cases hc with
  | begin x y u v =>
    have e' : (0 : Int) = n := (List.cons.inj e).1
    exact absurd e'.symm h.1
  | told done now h3 h4 =>
    rw [st_told, act_told_off off]
    rfl
  | point x =>
    rw [st_point, Pd.act_point_off off]
    rfl
  | back =>
    have e' : (3 : Int) = n := (List.cons.inj e).1
    exact absurd e'.symm h.2.1
  | right x =>
    have e' : (4 : Int) = n := (List.cons.inj e).1
    exact absurd e'.symm h.2.2
  | score =>
    rw [st_score]
    simp only [act]
    rw [if_pos off]
    rfl
  | next =>
    rw [st_next]
    simp only [act]
    rw [if_pos off]
    rfl
  | need x =>
    rw [st_need]
    simp only [act]
    rw [if_pos off]
    rfl
  | count =>
    rw [st_count]
    simp only [act]
    rw [if_pos off]
    rfl
theorem put_head {c : List (List Int)} (hc : Pd.Is c) : ∃ n xs, put1 c = n :: xs := by
  cases hc with
  | told done now h3 h4 => exact ⟨_, _, put_told done now⟩
  | _ => exact (ex2 _ _ rfl)
theorem not_three (n : Int) : (!inV (V.int n) [V.int 0, V.int 3, V.int 4]) = true ↔ (n ≠ 0 ∧ n ≠ 3 ∧ n ≠ 4) := by
  show (!((0 == n) || ((3 == n) || ((4 == n) || false)))) = true ↔ _
  rw [Bool.not_eq_true', Bool.or_false, Bool.or_eq_false_iff, Bool.or_eq_false_iff, beq_eq_false_iff_ne, beq_eq_false_iff_ne, beq_eq_false_iff_ne]
  exact ⟨fun h => ⟨h.1.symm, h.2.1.symm, h.2.2.symm⟩, fun h => ⟨h.1.symm, h.2.1.symm, h.2.2.symm⟩⟩
theorem one_of_three {n : Int} (h : ¬ (n ≠ 0 ∧ n ≠ 3 ∧ n ≠ 4)) : n = 0 ∨ n = 3 ∨ n = 4 :=
  if h0 : n = 0 then .inl h0 else if h3 : n = 3 then .inr (.inl h3) else if h4 : n = 4 then .inr (.inr h4) else absurd ⟨h0, h3, h4⟩ h
theorem on_of {b : Bool} {k n : Int} (h : b = true ∨ n = 0 ∨ n = 3 ∨ n = 4) (e : k = n) (hk : (k == 0 || (k == 3 || k == 4)) = false) : b = true := by
  subst e
  rcases h with h | h | h | h
  · exact h
  all_goals
    subst h
    cases hk
theorem deskNo (vr vw vs : V) {m : Str} (h : (decide (m = "rules") || (decide (m = "winners") || decide (m = "scores"))) = false) : (deskFs vr vw vs).lookup m = none := by
  rw [Bool.or_eq_false_iff, Bool.or_eq_false_iff, decide_eq_false_iff_not, decide_eq_false_iff_not, decide_eq_false_iff_not] at h
  exact deskFs_no _ _ _ h.1 h.2.1 h.2.2
section
variable {P : Program} {w : World} {K : PySem.W.Frag} {mg : Str → Option Value} {base : Heap}
/-- what a call answers, as a list, and how it leaves the desk -/
def Answered (T : Tx K mg) (H : Hp) (p lw ls : Addr) (r : Abs × List Int) (Q : VK) : Prop :=
  ∀ (H' : Hp) (lw' ls' l : Addr), DeskAt T H' p lw' ls' r.1 → (lw' = lw ∨ H lw' = none) → (ls' = ls ∨ H ls' = none) → Keeps p lw ls H H' → (∀ b o, H b = some o → b ≠ p → b ≠ lw → b ≠ ls → b ≠ l) → H' l = some (.lst (r.2.map V.int)) → Q (.ref l) H'
theorem Answered.same {T : Tx K mg} {H H1 : Hp} {p lw ls : Addr} {r : Abs × List Int} {Q : VK} (h : Answered T H p lw ls r Q) (s : Same H H1) : Answered T H1 p lw ls r Q :=
  fun H' lw' ls' l D e1 e2 kp na hl => h H' lw' ls' l D (e1.imp_right s.free) (e2.imp_right s.free) (fun b o e n1 n2 n3 => kp b o (s _ _ e) n1 n2 n3) (fun b o e n1 n2 n3 => na b o (s _ _ e) n1 n2 n3) hl
/-- the answer's list is made at the end -/
theorem Answered.new {T : Tx K mg} {H H1 : Hp} {p lw ls lw' ls' l : Addr} {r : Abs × List Int} {Q : VK} {xs : List V} (h : Answered T H p lw ls r Q) (D : DeskAt T H1 p lw' ls' r.1) (e1 : lw' = lw ∨ H lw' = none) (e2 : ls' = ls ∨ H ls' = none) (kp : Keeps p lw ls H H1)
    (nl : H1 l = none) (ex : xs = r.2.map V.int) : Q (.ref l) (upd H1 l (.lst xs)) := by
  have s := Same.new (o := .lst xs) nl
  refine h _ lw' ls' l (D.same s) e1 e2 (kp.trans s.keeps) (fun b o e n1 n2 n3 q => ?_) (by rw [upd_same, ex])
  subst q
  rw [kp _ o e n1 n2 n3] at nl
  cases nl
def sp_answer_to (T : Tx K mg) : Sp := fun vs H Q _ => ∃ (p lw ls ca : Addr) (a : Abs) (c : List (List Int)), vs = [.ref p, .ref ca] ∧ DeskAt T H p lw ls a ∧ H ca = some (.lst ((put1 c).map V.int)) ∧ Pd.Is c ∧ (put1 c).length ≤ 100000 ∧ Answered T H p lw ls (step a c) Q
/-- a test of the call's kind that fails is passed -/
def Pass (q u : TS) (cd : Int) : Prop := ∀ {D : Ends} {v0 v2 : Option V} {ca : Addr} {H : Hp} {n : Int} {xs : List V}, H ca = some (.lst (.int n :: xs)) → (n == cd) = false → u D [v0, some (.ref ca), v2] H → q D [v0, some (.ref ca), v2] H
theorem pass_of {q u x : TS} {cd : Int} (e : q = tSeq (tIfS (tTest (tOp rEq (tOp (rIxL K) (tVar 1) (tC (.int 0))) (tC (.int cd)))) x tNext) u) : Pass q u cd := by
  subst e
  intro D v0 v2 ca H n xs C h g
  refine exE rfl (ixn (j := 0) (SqL.of C) rfl rfl ⟨rfl, exE rfl (ite2 (fun c => ?_) (fun _ => g))⟩)
  rw [dec_int, h] at c
  cases c
noncomputable def tmk_answer_to_9 (T : Tx K mg) : Tm K mg ["desk", "call", "now_place"] "answer_to" s_answer_to T.f_answer_to 7 ((defBody s_answer_to).drop 9) :=
  ⟨_, fun cdv A outer s H E hr => pss_end (k := 9) rfl (ps_ret (pe_meth0 (pv 0) T.k_Desk T.m_Desk_counts (ok_Desk_counts T) (hr.mono (by decide)) T.b_Desk_counts .nil pass0))⟩
noncomputable def t_answer_to_9 (T : Tx K mg) : TS := (tmk_answer_to_9 T).t
noncomputable def tmk_answer_to_8 (T : Tx K mg) : Tm K mg ["desk", "call", "now_place"] "answer_to" s_answer_to T.f_answer_to 7 ((defBody s_answer_to).drop 8) :=
  ⟨tSeq _ (t_answer_to_9 T), fun cdv A outer s H E hr => pss_at (k := 8) rfl (ps_if (pt_cmpR op_eq (pe_ix (show IxR _ (rIxL K) from ix_list) (pv 1) pe_int (fun _ _ => rfl)) (pe_glob rfl T.v_NEED T.r_NEED) (nomark _)) (pss_one (ps_ret (pe_lst (pa_cons (pe_meth (pv 0) T.k_Desk T.m_Desk_need (ok_Desk_need T) (hr.mono (by decide)) T.b_Desk_need .nil pass0 (pa_cons (pe_ix (show IxR _ (rIxL K) from ix_list) (pv 1) pe_int (fun _ _ => rfl)) pa_nil)) pa_nil)))) pss_nil)
    ((tmk_answer_to_9 T).ok cdv A outer s H E hr)⟩
noncomputable def t_answer_to_8 (T : Tx K mg) : TS := (tmk_answer_to_8 T).t
noncomputable def tmk_answer_to_7 (T : Tx K mg) : Tm K mg ["desk", "call", "now_place"] "answer_to" s_answer_to T.f_answer_to 7 ((defBody s_answer_to).drop 7) :=
  ⟨tSeq _ (t_answer_to_8 T), fun cdv A outer s H E hr => pss_at (k := 7) rfl (ps_if (pt_cmpR op_eq (pe_ix (show IxR _ (rIxL K) from ix_list) (pv 1) pe_int (fun _ _ => rfl)) (pe_glob rfl T.v_NEXT T.r_NEXT) (nomark _)) (pss_one (ps_ret (pe_lst (pa_cons (pe_meth0 (pv 0) T.k_Desk T.m_Desk_serving (ok_Desk_serving T) (hr.mono (by decide)) T.b_Desk_serving .nil pass0) pa_nil)))) pss_nil)
    ((tmk_answer_to_8 T).ok cdv A outer s H E hr)⟩
noncomputable def t_answer_to_7 (T : Tx K mg) : TS := (tmk_answer_to_7 T).t
noncomputable def tmk_answer_to_6 (T : Tx K mg) : Tm K mg ["desk", "call", "now_place"] "answer_to" s_answer_to T.f_answer_to 7 ((defBody s_answer_to).drop 6) :=
  ⟨tSeq _ (t_answer_to_7 T), fun cdv A outer s H E hr => pss_at (k := 6) rfl (ps_if (pt_cmpR op_eq (pe_ix (show IxR _ (rIxL K) from ix_list) (pv 1) pe_int (fun _ _ => rfl)) (pe_glob rfl T.v_SCORE T.r_SCORE) (nomark _)) (pss_one (ps_ret (pe_meth0 (pv 0) T.k_Desk T.m_Desk_score (ok_Desk_score T) (hr.mono (by decide)) T.b_Desk_score .nil pass0))) pss_nil)
    ((tmk_answer_to_7 T).ok cdv A outer s H E hr)⟩
noncomputable def t_answer_to_6 (T : Tx K mg) : TS := (tmk_answer_to_6 T).t
noncomputable def tmk_answer_to_5 (T : Tx K mg) : Tm K mg ["desk", "call", "now_place"] "answer_to" s_answer_to T.f_answer_to 7 ((defBody s_answer_to).drop 5) :=
  ⟨tSeq _ (t_answer_to_6 T), fun cdv A outer s H E hr => pss_at (k := 5) rfl (ps_if (pt_cmpR op_eq (pe_ix (show IxR _ (rIxL K) from ix_list) (pv 1) pe_int (fun _ _ => rfl)) (pe_glob rfl T.v_RIGHT T.r_RIGHT) (nomark _)) (pss_one (ps_ret (pe_lst (pa_cons (pe_meth (pv 0) T.k_Desk T.m_Desk_right (ok_Desk_right T) (hr.mono (by decide)) T.b_Desk_right .nil pass0 (pa_cons (pe_ix (show IxR _ (rIxL K) from ix_list) (pv 1) pe_int (fun _ _ => rfl)) pa_nil)) pa_nil)))) pss_nil)
    ((tmk_answer_to_6 T).ok cdv A outer s H E hr)⟩
noncomputable def t_answer_to_5 (T : Tx K mg) : TS := (tmk_answer_to_5 T).t
noncomputable def tmk_answer_to_4 (T : Tx K mg) : Tm K mg ["desk", "call", "now_place"] "answer_to" s_answer_to T.f_answer_to 7 ((defBody s_answer_to).drop 4) :=
  ⟨tSeq _ (t_answer_to_5 T), fun cdv A outer s H E hr => pss_at (k := 4) rfl (ps_if (pt_cmpR op_eq (pe_ix (show IxR _ (rIxL K) from ix_list) (pv 1) pe_int (fun _ _ => rfl)) (pe_glob rfl T.v_BACK T.r_BACK) (nomark _)) (pss_one (ps_ret (pe_lst (pa_cons (pe_meth0 (pv 0) T.k_Desk T.m_Desk_back (ok_Desk_back T) (hr.mono (by decide)) T.b_Desk_back .nil pass0) pa_nil)))) pss_nil)
    ((tmk_answer_to_5 T).ok cdv A outer s H E hr)⟩
noncomputable def t_answer_to_4 (T : Tx K mg) : TS := (tmk_answer_to_4 T).t
noncomputable def tmk_answer_to_3 (T : Tx K mg) : Tm K mg ["desk", "call", "now_place"] "answer_to" s_answer_to T.f_answer_to 7 ((defBody s_answer_to).drop 3) :=
  ⟨tSeq _ (t_answer_to_4 T), fun cdv A outer s H E hr => pss_at (k := 3) rfl (ps_if (pt_cmpR op_eq (pe_ix (show IxR _ (rIxL K) from ix_list) (pv 1) pe_int (fun _ _ => rfl)) (pe_glob rfl T.v_POINT T.r_POINT) (nomark _)) (pss_one (ps_ret (pe_lst (pa_cons (pe_meth (pv 0) T.k_Desk T.m_Desk_point (ok_Desk_point T) (hr.mono (by decide)) T.b_Desk_point .nil pass0 (pa_cons (pe_ix (show IxR _ (rIxL K) from ix_list) (pv 1) pe_int (fun _ _ => rfl)) pa_nil)) pa_nil)))) pss_nil)
    ((tmk_answer_to_4 T).ok cdv A outer s H E hr)⟩
noncomputable def t_answer_to_3 (T : Tx K mg) : TS := (tmk_answer_to_3 T).t
noncomputable def tmk_answer_to_2 (T : Tx K mg) : Tm K mg ["desk", "call", "now_place"] "answer_to" s_answer_to T.f_answer_to 7 ((defBody s_answer_to).drop 2) :=
  ⟨tSeq _ (t_answer_to_3 T), fun cdv A outer s H E hr => pss_at (k := 2) rfl (ps_if (pt_cmpR op_eq (pe_ix (show IxR _ (rIxL K) from ix_list) (pv 1) pe_int (fun _ _ => rfl)) (pe_glob rfl T.v_TOLD T.r_TOLD) (nomark _)) (pss_cons (ps_set (i := 2) sc_answer_to.nd rfl (Or.inl rfl) (pe_op op_add pe_int (pe_ix (show IxR _ (rIxL K) from ix_list) (pv 1) pe_int (fun _ _ => rfl))))
      (pss_one (ps_ret (pe_lst (pa_cons (pe_meth (pv 0) T.k_Desk T.m_Desk_told (ok_Desk_told T) (hr.mono (by decide)) T.b_Desk_told .nil pass0 (pa_cons (pe_slice (show SlR _ (rSlL K) from sl_list) (pv 1) (po_some pe_int) (po_some (pv 2))) (pa_cons (pe_slice (show SlR _ (rSlL K) from sl_list) (pv 1) (po_some (pe_op op_add (pv 2) pe_int)) po_none) pa_nil))) pa_nil))))) pss_nil)
    ((tmk_answer_to_3 T).ok cdv A outer s H E hr)⟩
noncomputable def t_answer_to_2 (T : Tx K mg) : TS := (tmk_answer_to_2 T).t
noncomputable def tmk_answer_to_1 (T : Tx K mg) : Tm K mg ["desk", "call", "now_place"] "answer_to" s_answer_to T.f_answer_to 7 ((defBody s_answer_to).drop 1) :=
  ⟨tSeq _ (t_answer_to_2 T), fun cdv A outer s H E hr => pss_at (k := 1) rfl (ps_if (pt_cmpR op_eq (pe_ix (show IxR _ (rIxL K) from ix_list) (pv 1) pe_int (fun _ _ => rfl)) (pe_glob rfl T.v_BEGIN T.r_BEGIN) (nomark _)) (pss_one (ps_ret (pe_lst (pa_cons (pe_meth (pv 0) T.k_Desk T.m_Desk_begin (ok_Desk_begin T) (hr.mono (by decide)) T.b_Desk_begin .nil pass0 (pa_cons (pe_ix (show IxR _ (rIxL K) from ix_list) (pv 1) pe_int (fun _ _ => rfl)) (pa_cons (pe_ix (show IxR _ (rIxL K) from ix_list) (pv 1) pe_int (fun _ _ => rfl)) (pa_cons (pe_ix (show IxR _ (rIxL K) from ix_list) (pv 1) pe_int (fun _ _ => rfl)) (pa_cons (pe_ix (show IxR _ (rIxL K) from ix_list) (pv 1) pe_int (fun _ _ => rfl)) pa_nil))))) pa_nil)))) pss_nil)
    ((tmk_answer_to_2 T).ok cdv A outer s H E hr)⟩
noncomputable def t_answer_to_1 (T : Tx K mg) : TS := (tmk_answer_to_1 T).t
noncomputable def smk_answer_to_0 (T : Tx K mg) : Sm K mg ["desk", "call", "now_place"] "answer_to" s_answer_to T.f_answer_to 7 ((defBody s_answer_to).getD 0 (.Pass ⟨0, 0, 0, 0⟩)) :=
  ⟨_, fun cdv A outer s H E hr => ps_at (k := 0) rfl (ps_if (PW.pt (pw_and (pt_cmpR op_isN (show PE _ _ (tFld K _ _) from pe_fld (pv 0) rfl) pe_non (nomark _)) (pw_and1 (pt_cmpR (show OpR _ _ (rIn K true) from op_notIn_seq) (pe_ix (show IxR _ (rIxL K) from ix_list) (pv 1) pe_int (fun _ _ => rfl)) (pe_tup (pa_cons (pe_glob rfl T.v_BEGIN T.r_BEGIN) (pa_cons (pe_glob rfl T.v_BACK T.r_BACK) (pa_cons (pe_glob rfl T.v_RIGHT T.r_RIGHT) pa_nil)))) (by with_unfolding_all rfl))))) (pss_one (ps_ret (pe_lst (pa_cons (pe_glob rfl T.v_NO_RULES T.r_NO_RULES) pa_nil)))) pss_nil)⟩
noncomputable def u_answer_to_0 (T : Tx K mg) : TS := (smk_answer_to_0 T).t
noncomputable def tmk_answer_to_0 (T : Tx K mg) : Tm K mg ["desk", "call", "now_place"] "answer_to" s_answer_to T.f_answer_to 7 ((defBody s_answer_to).drop 0) :=
  ⟨tSeq (u_answer_to_0 T) (t_answer_to_1 T), fun cdv A outer s H E hr => pss_cut (k := 0) rfl ((smk_answer_to_0 T).ok cdv A outer s H E hr) ((tmk_answer_to_1 T).ok cdv A outer s H E hr)⟩
noncomputable def t_answer_to_0 (T : Tx K mg) : TS := (tmk_answer_to_0 T).t
theorem e_answer_to_0 (T : Tx K mg) : t_answer_to_0 T = tSeq (u_answer_to_0 T) (t_answer_to_1 T) := rfl
theorem pass_1 (T : Tx K mg) : Pass (t_answer_to_1 T) (t_answer_to_2 T) 0 := pass_of rfl
theorem pass_2 (T : Tx K mg) : Pass (t_answer_to_2 T) (t_answer_to_3 T) 1 := pass_of rfl
theorem pass_3 (T : Tx K mg) : Pass (t_answer_to_3 T) (t_answer_to_4 T) 2 := pass_of rfl
theorem pass_4 (T : Tx K mg) : Pass (t_answer_to_4 T) (t_answer_to_5 T) 3 := pass_of rfl
theorem pass_5 (T : Tx K mg) : Pass (t_answer_to_5 T) (t_answer_to_6 T) 4 := pass_of rfl
theorem pass_6 (T : Tx K mg) : Pass (t_answer_to_6 T) (t_answer_to_7 T) 5 := pass_of rfl
theorem pass_7 (T : Tx K mg) : Pass (t_answer_to_7 T) (t_answer_to_8 T) 6 := pass_of rfl
theorem pass_8 (T : Tx K mg) : Pass (t_answer_to_8 T) (t_answer_to_9 T) 7 := pass_of rfl
theorem ok_answer_to (T : Tx K mg) : FnOk P w K mg base CX0 8 T.f_answer_to T.d_answer_to ["desk", "call"] (sp_answer_to T) := by
  refine T.F_answer_to.ok sc_answer_to (fun vs H Q E h => ?_) (fun cdv A outer s H vs Q E hr h => ?_)
  · obtain ⟨_, _, _, _, _, _, rfl, _⟩ := h
    rfl
  · obtain ⟨p, lw, ls, ca, a, c, rfl, D, hC, hc, hlen, k⟩ := h
    refine ⟨t_answer_to_0 T, (tmk_answer_to_0 T).ok _ _ _ _ _ _ hr, ?_⟩
    obtain ⟨n, xs, ec⟩ := put_head hc
    refine seq_by (e_answer_to_0 T) (fun σ' H' => σ' = [some (.ref p), some (.ref ca), none] ∧ Same H H' ∧ (a.on = true ∨ n = 0 ∨ n = 3 ∨ n = 4)) ?_ (fun rest => ?_)
    · rintro σ' H1 ⟨rfl, s1, hon⟩
      have C1 := s1 _ _ hC
      have k1 := k.same s1
      have D1 := D.same s1
      obtain ⟨dx, hp⟩ : ∃ vr dx, H1 p = some (.ins T.c_Desk dx (deskFs vr (.ref lw) (.ref ls))) := by
        obtain ⟨vr, ws, ts, as, q, _⟩ := D1.ex
        obtain ⟨dx, q⟩ := q.obj
        exact ⟨vr, dx, q⟩
      obtain ⟨dy, hp⟩ := hp
      clear hC D k
      cases hc with
      | begin x y u v =>
        have C2 : H1 ca = some (.lst [.int 0, .int x, .int y, .int u, .int v]) := C1
        rw [st_begin] at k1
        refine (exE rfl (ixn (j := 0) (SqL.of C2) rfl rfl ⟨rfl, exE rfl (iteT ?_)⟩))
        refine exE rfl (ex3 p dy _ ⟨rfl, hp, deskNo _ _ _ (by decide +kernel), exE rfl (ixn (j := 1) (SqL.of C2) rfl rfl (exE rfl (ixn (j := 2) (SqL.of C2) rfl rfl (exE rfl (ixn (j := 3) (SqL.of C2) rfl rfl (exE rfl (ixn (j := 4) (SqL.of C2) rfl rfl
          (ex8 p lw ls a x y u v ⟨rfl, D1, fun H2 lw' ls' D2 e1 e2 kp => ?_⟩))))))))⟩)
        exact ⟨(sz rfl), fun l nl => k1.new D2 e1 e2 kp nl (by rw [av_one (out_begin a _)]; rfl)⟩
      | told done now h3 h4 =>
        have on := on_of (k := 1) hon (List.cons.inj ((put_told done now).symm.trans ec)).1 rfl
        rw [put_told] at C1 hlen
        have hdl : done.length ≤ 100000 := by
          simp at hlen
          omega
        obtain ⟨ga, gb, pa, pb, rfl⟩ : ∃ ga gb pa pb, now = [ga, gb, pa, pb] := by
          match now, h4 with
          | [ga, gb, pa, pb], _ => exact (ex4 ga gb pa pb rfl)
        have C2 : H1 ca = some (.lst (.int 1 :: .int (done.length : Int) :: (nv done ++ .int 4 :: nv [ga, gb, pa, pb]))) := by
          rw [C1, nv_ints, nv_ints]
          simp
        rw [st_told] at k1
        have nl : (nv done).length = done.length := by unfold nv; rw [List.length_map]
        have cut1 : cutV (.int 1 :: .int (done.length : Int) :: (nv done ++ .int 4 :: nv [ga, gb, pa, pb])) (some 2) (some (2 + (done.length : Int))) = nv done := by
          have h := cut_mid (xs := .int 1 :: .int (done.length : Int) :: (nv done ++ .int 4 :: nv [ga, gb, pa, pb])) (m := 2) (n := 2 + done.length) (by omega) (by simp [nl]; omega)
          rw [show ((2 + done.length : Nat) : Int) = 2 + (done.length : Int) by omega, show 2 + done.length - 2 = (nv done).length by omega] at h
          refine h.trans ?_
          show (nv done ++ .int 4 :: nv [ga, gb, pa, pb]).take (nv done).length = nv done
          exact List.take_left
        have cut2 : cutV (.int 1 :: .int (done.length : Int) :: (nv done ++ .int 4 :: nv [ga, gb, pa, pb])) (some (2 + (done.length : Int) + 1)) none = nv [ga, gb, pa, pb] := by
          have h := cut_from (xs := .int 1 :: .int (done.length : Int) :: (nv done ++ .int 4 :: nv [ga, gb, pa, pb])) (n := 2 + done.length + 1) (by simp [nl]; omega)
          rw [show ((2 + done.length + 1 : Nat) : Int) = 2 + (done.length : Int) + 1 by omega] at h
          refine h.trans ?_
          rw [show 2 + done.length + 1 = (nv done).length + 1 + 1 + 1 by omega]
          show (nv done ++ .int 4 :: nv [ga, gb, pa, pb]).drop ((nv done).length + 1) = _
          rw [List.drop_append]
          simp
        refine pass_1 T C2 rfl (?_)
        refine (exE rfl (ixn (j := 0) (SqL.of C2) rfl rfl ⟨rfl, exE rfl (iteT ?_)⟩))
        refine (exE rfl (ixn (j := 1) (SqL.of C2) rfl rfl (ii2 ?_)))
        refine (exE rfl (ex3 p dy _ ⟨rfl, hp, deskNo _ _ _ (by decide +kernel), exE rfl (exE rfl (exE rfl (exE rfl (ex2 ca _ ⟨rfl, SqL.of C2, fun da nda => ?_⟩))))⟩))
        rw [cut1]
        generalize hU : upd _ da _ = H2
        obtain ⟨s2, hda⟩ := new_of nda hU
        refine (exE rfl (exE rfl (ii2 (exE rfl (ex2 ca _ ⟨rfl, SqL.of (s2 _ _ C2), fun na nna => ?_⟩)))))
        rw [cut2]
        generalize hU2 : upd _ na _ = H3
        obtain ⟨s3, hna⟩ := new_of nna hU2
        have s23 := s2.trans s3
        refine (ex12 p lw ls da na a done (done.length / 3) ga gb pa pb ⟨rfl, D1.same s23, on, s3 _ _ hda, by omega, hdl, hna, fun H4 lw' ls' D4 e1 e2 kp => ?_⟩)
        exact ⟨(sz rfl), fun l nl => (k1.same s23).new D4 e1 e2 kp nl (by rw [av_one (out_told a _)]; rfl)⟩
      | point x =>
        have on := on_of (k := 2) hon (List.cons.inj ec).1 rfl
        have C2 : H1 ca = some (.lst [.int 2, .int x]) := C1
        rw [st_point] at k1
        refine pass_1 T C2 rfl (pass_2 T C2 rfl (?_))
        refine (exE rfl (ixn (j := 0) (SqL.of C2) rfl rfl ⟨rfl, exE rfl (iteT ?_)⟩))
        refine (exE rfl (ex3 p dy _ ⟨rfl, hp, deskNo _ _ _ (by decide +kernel), exE rfl (ixn (j := 1) (SqL.of C2) rfl rfl (ex5 p lw ls a x ⟨rfl, D1, on, fun H2 lw' ls' D2 e1 e2 kp => ?_⟩))⟩))
        exact ⟨(sz rfl), fun l nl => k1.new D2 e1 e2 kp nl (by rw [av_one (out_point a _)]; rfl)⟩
      | back =>
        have C2 : H1 ca = some (.lst [.int 3]) := C1
        rw [st_back] at k1
        refine pass_1 T C2 rfl (pass_2 T C2 rfl (pass_3 T C2 rfl (?_)))
        refine (exE rfl (ixn (j := 0) (SqL.of C2) rfl rfl ⟨rfl, exE rfl (iteT ?_)⟩))
        refine (exE rfl (ex3 p dy _ ⟨rfl, hp, deskNo _ _ _ (by decide +kernel), ex4 p lw ls a ⟨rfl, D1, fun H2 lw' ls' D2 e1 e2 kp => ?_⟩⟩))
        exact ⟨(sz rfl), fun l nl => k1.new D2 e1 e2 kp nl (by rw [av_one (out_back a)]; rfl)⟩
      | right x =>
        have C2 : H1 ca = some (.lst [.int 4, .int x]) := C1
        rw [st_right] at k1
        refine pass_1 T C2 rfl (pass_2 T C2 rfl (pass_3 T C2 rfl (pass_4 T C2 rfl (?_))))
        refine (exE rfl (ixn (j := 0) (SqL.of C2) rfl rfl ⟨rfl, exE rfl (iteT ?_)⟩))
        refine (exE rfl (ex3 p dy _ ⟨rfl, hp, deskNo _ _ _ (by decide +kernel), exE rfl (ixn (j := 1) (SqL.of C2) rfl rfl (ex5 p lw ls a x ⟨rfl, D1, fun H2 lw' ls' D2 e1 e2 kp => ?_⟩))⟩))
        exact ⟨(sz rfl), fun l nl => k1.new D2 e1 e2 kp nl (by rw [av_one (out_right a _)]; rfl)⟩
      | score =>
        have on := on_of (k := 5) hon (List.cons.inj ec).1 rfl
        have C2 : H1 ca = some (.lst [.int 5]) := C1
        rw [st_score, same_score] at k1
        refine pass_1 T C2 rfl (pass_2 T C2 rfl (pass_3 T C2 rfl (pass_4 T C2 rfl (pass_5 T C2 rfl (?_)))))
        refine (exE rfl (ixn (j := 0) (SqL.of C2) rfl rfl ⟨rfl, exE rfl (iteT ?_)⟩))
        refine (exE rfl (ex3 p dy _ ⟨rfl, hp, deskNo _ _ _ (by decide +kernel), ex4 p lw ls a ⟨rfl, D1, on, fun l H2 s2 nl hl => ?_⟩⟩))
        exact k1 H2 lw ls l (D1.same s2) (.inl rfl) (.inl rfl) s2.keeps (fun b o e _ _ _ => ne_of_none e nl) hl
      | next =>
        have on := on_of (k := 6) hon (List.cons.inj ec).1 rfl
        have C2 : H1 ca = some (.lst [.int 6]) := C1
        rw [st_next, same_next] at k1
        refine pass_1 T C2 rfl (pass_2 T C2 rfl (pass_3 T C2 rfl (pass_4 T C2 rfl (pass_5 T C2 rfl (pass_6 T C2 rfl (?_))))))
        refine (exE rfl (ixn (j := 0) (SqL.of C2) rfl rfl ⟨rfl, exE rfl (iteT ?_)⟩))
        refine (exE rfl (ex3 p dy _ ⟨rfl, hp, deskNo _ _ _ (by decide +kernel), ex4 p lw ls a ⟨rfl, D1, on, fun H2 s2 => ?_⟩⟩))
        exact ⟨(sz rfl), fun l nl => k1.new (D1.same s2) (.inl rfl) (.inl rfl) s2.keeps nl (by rw [av_one (out_next a)]; rfl)⟩
      | need x =>
        have on := on_of (k := 7) hon (List.cons.inj ec).1 rfl
        have C2 : H1 ca = some (.lst [.int 7, .int x]) := C1
        rw [st_need, same_need] at k1
        refine pass_1 T C2 rfl (pass_2 T C2 rfl (pass_3 T C2 rfl (pass_4 T C2 rfl (pass_5 T C2 rfl (pass_6 T C2 rfl (pass_7 T C2 rfl (?_)))))))
        refine (exE rfl (ixn (j := 0) (SqL.of C2) rfl rfl ⟨rfl, exE rfl (iteT ?_)⟩))
        refine (exE rfl (ex3 p dy _ ⟨rfl, hp, deskNo _ _ _ (by decide +kernel), exE rfl (ixn (j := 1) (SqL.of C2) rfl rfl (ex5 p lw ls a x ⟨rfl, D1, on, fun H2 s2 => ?_⟩))⟩))
        exact ⟨(sz rfl), fun l nl => k1.new (D1.same s2) (.inl rfl) (.inl rfl) s2.keeps nl (by rw [av_one (out_need a _)]; rfl)⟩
      | count =>
        have on := on_of (k := 8) hon (List.cons.inj ec).1 rfl
        have C2 : H1 ca = some (.lst [.int 8]) := C1
        rw [st_count, same_count] at k1
        refine pass_1 T C2 rfl (pass_2 T C2 rfl (pass_3 T C2 rfl (pass_4 T C2 rfl (pass_5 T C2 rfl (pass_6 T C2 rfl (pass_7 T C2 rfl (pass_8 T C2 rfl (?_))))))))
        refine (exE rfl (ex3 p dy _ ⟨rfl, hp, deskNo _ _ _ (by decide +kernel), ex4 p lw ls a ⟨rfl, D1, on, fun l H2 s2 nl hl => ?_⟩⟩))
        exact k1 H2 lw ls l (D1.same s2) (.inl rfl) (.inl rfl) s2.keeps (fun b o e _ _ _ => ne_of_none e nl) hl
    · obtain ⟨vr, ws, ts, as, D1, I, hS, hoff, hon⟩ := D.ex
      have C2 : H ca = some (.lst (.int n :: xs.map V.int)) := by rw [hC, ec]; rfl
      cases on : a.on with
      | true =>
        obtain ⟨ra, rfl, hR⟩ := hon on
        exact (exE rfl (D1.rules ⟨rfl, exE rfl (iteF (iteF (rest _ _ ⟨rfl, Same.refl _, .inl on⟩)))⟩))
      | false =>
        have e := hoff on
        subst e
        refine (exE rfl (D1.rules ⟨rfl, exE rfl (iteT ?_)⟩))
        refine (exE rfl (ixn (j := 0) (SqL.of C2) rfl rfl ⟨(sz rfl), fun q nq => ?_⟩))
        generalize hU : upd _ q _ = H1
        obtain ⟨s1, hq⟩ := new_of nq hU
        refine (ex2 q _ ⟨rfl, .inr (SqT.of hq), rfl, rfl, exE rfl ?_⟩)
        refine ite2 (fun c1 => ?_) (fun c1 => ?_)
        · have h3 := (not_three n).mp c1
          rw [off_step hc on ec h3] at k
          exact ⟨(sz rfl), fun l nl => (k.same s1).new (D.same s1) (.inl rfl) (.inl rfl) (Same.refl _).keeps nl rfl⟩
        · refine rest _ _ ⟨rfl, s1, .inr ?_⟩
          exact one_of_three fun z => c1 ((not_three n).mpr z)
end
end Pt

end
section
set_option Elab.async false
set_option linter.all false
set_option maxRecDepth 100000
set_option maxHeartbeats 2000000
namespace Pt
open PySem PySem.Spec PyProof.Rows L2
open Ks301 (Rules Score)
open Ks303 (Abs act Ans)
open PyFlat (put put1 told played)
open Ks303Neutral (step)
/-- an object written anew -/
theorem wr_of {H H1 : Hp} {g : Addr} {o : HO} (hU : upd H g o = H1) : H1 g = some o ∧ ∀ b, b ≠ g → H1 b = H b := by
  subst hU
  exact ⟨upd_same, fun b hb => upd_ne hb⟩
theorem put1_pos {c : List (List Int)} (hc : Pd.Is c) : 0 < (put1 c).length := by
  obtain ⟨n, xs, e⟩ := put_head hc
  rw [e]
  exact Nat.succ_pos _
section
variable {P : Program} {w : World} {K : PySem.W.Frag} {mg : Str → Option Value} {base : Heap}
def sp_answers (K : PySem.W.Frag) : Sp := fun vs H Q _ => ∃ (ca : Addr) (l : List Int), vs = [.ref ca] ∧ SqL K H ca (l.map V.int) ∧ PyKs303.answers_asked l = true ∧ l.length ≤ 31000 ∧ ∀ H' q, H' q = some (.lst ((PyKs303.answers l).map V.int)) → Q (.ref q) H'
noncomputable def tmk_answers_4 (T : Tx K mg) : Tm K mg ["calls", "desk", "given", "place", "length", "answer"] "answers" s_answers T.f_answers 8 ((defBody s_answers).drop 4) :=
  ⟨_, fun cdv A outer s H E hr => pss_end (k := 4) rfl (ps_ret (pv 2))⟩
noncomputable def t_answers_4 (T : Tx K mg) : TS := (tmk_answers_4 T).t
noncomputable def tmk_answers_3 (T : Tx K mg) : Tm K mg ["calls", "desk", "given", "place", "length", "answer"] "answers" s_answers T.f_answers 8 ((defBody s_answers).drop 3) :=
  ⟨tSeq _ (t_answers_4 T), fun cdv A outer s H E hr => pss_at (k := 3) rfl (ps_while PassesOwn.never (pt_cmpR op_lt (pv 3) (pe_callB (show CallR _ _ (Pr.rLen K) from call_len_seq) (by rfl) T.z_len bt_len (pa_cons (pv 0) pa_nil)) (nomark _)) (pss_cons (ps_set (i := 4) sc_answers.nd rfl (Or.inl rfl) (pe_call (ok_call_length T) (hr.mono (by decide)) rfl T.g_call_length T.F_call_length.kp T.b_call_length .nil pass0 (pa_cons (pv 0) (pa_cons (pv 3) pa_nil))))
      (pss_cons (ps_set (i := 5) sc_answers.nd rfl (Or.inl rfl) (pe_call (ok_answer_to T) (hr.mono (by decide)) rfl T.g_answer_to T.F_answer_to.kp T.b_answer_to .nil pass0 (pa_cons (pv 1) (pa_cons (pe_slice (show SlR _ (rSlL K) from sl_list) (pv 0) (po_some (pv 3)) (po_some (pe_op op_add (pv 3) (pv 4)))) pa_nil))))
      (pss_cons (ps_expr (show PE _ _ (tBM K _ _ _ _) from pe_bm PySem.F.plainAttrs_list PySem.F.slot_list_append PySem.F.type_list_append mt_append (pv 2) (pa_cons (pe_callB (show CallR _ _ (Pr.rLen K) from call_len_seq) (by rfl) T.z_len bt_len (pa_cons (pv 5) pa_nil)) pa_nil)))
      (pss_cons (ps_expr (show PE _ _ (tBM K _ _ _ _) from pe_bm PySem.F.plainAttrs_list PySem.F.slot_list_extend PySem.F.type_list_extend mt_extend (pv 2) (pa_cons (pv 5) pa_nil)))
      (pss_one (ps_set (i := 3) sc_answers.nd rfl (Or.inl rfl) (pe_op op_add (pv 3) (pv 4)))))))))
    ((tmk_answers_4 T).ok cdv A outer s H E hr)⟩
noncomputable def t_answers_3 (T : Tx K mg) : TS := (tmk_answers_3 T).t
noncomputable def tmk_answers_2 (T : Tx K mg) : Tm K mg ["calls", "desk", "given", "place", "length", "answer"] "answers" s_answers T.f_answers 8 ((defBody s_answers).drop 2) :=
  ⟨tSeq _ (t_answers_3 T), fun cdv A outer s H E hr => pss_at (k := 2) rfl (ps_set (i := 3) sc_answers.nd rfl (Or.inl rfl) pe_int)
    ((tmk_answers_3 T).ok cdv A outer s H E hr)⟩
noncomputable def t_answers_2 (T : Tx K mg) : TS := (tmk_answers_2 T).t
noncomputable def tmk_answers_1 (T : Tx K mg) : Tm K mg ["calls", "desk", "given", "place", "length", "answer"] "answers" s_answers T.f_answers 8 ((defBody s_answers).drop 1) :=
  ⟨tSeq _ (t_answers_2 T), fun cdv A outer s H E hr => pss_at (k := 1) rfl (ps_set (i := 2) sc_answers.nd rfl (Or.inl rfl) (pe_lst pa_nil))
    ((tmk_answers_2 T).ok cdv A outer s H E hr)⟩
noncomputable def t_answers_1 (T : Tx K mg) : TS := (tmk_answers_1 T).t
noncomputable def tmk_answers_0 (T : Tx K mg) : Tm K mg ["calls", "desk", "given", "place", "length", "answer"] "answers" s_answers T.f_answers 8 ((defBody s_answers).drop 0) :=
  ⟨tSeq _ (t_answers_1 T), fun cdv A outer s H E hr => pss_at (k := 0) rfl (ps_set (i := 1) sc_answers.nd rfl (Or.inl rfl) (pe_make0 T.mk_Desk (ok_Desk_init T) (hr.mono (by decide)) rfl T.g_Desk T.b_Desk_init .nil pass0))
    ((tmk_answers_1 T).ok cdv A outer s H E hr)⟩
noncomputable def t_answers_0 (T : Tx K mg) : TS := (tmk_answers_0 T).t
theorem ok_answers (T : Tx K mg) : FnOk P w K mg base CX0 9 T.f_answers T.d_answers ["calls"] (sp_answers K) := by
  refine T.F_answers.ok sc_answers (fun vs H Q E h => ?_) (fun cdv A outer s H vs Q E hr h => ?_)
  · obtain ⟨_, _, rfl, _⟩ := h
    rfl
  · obtain ⟨ca, l, rfl, hs, hask, hll, k⟩ := h
    obtain ⟨all, L⟩ := Pd.line_of hask
    refine ⟨t_answers_0 T, (tmk_answers_0 T).ok _ _ _ _ _ _ hr, ?_⟩
    -- desk = Desk()
    intro p dx np ndx nex
    refine (ex2 p dx ⟨rfl, upd_same, fun H0 lw0 ls0 D0 nw0 ns0 kp0 => ⟨rfl, ?_⟩⟩)
    have s0 : Same H H0 := Same.made np ndx kp0
    have sU : Same H (upd (upd H dx (.own p)) p (.ins T.c_Desk dx [])) := by
      have h1 : Same H (upd H dx (.own p)) := Same.new ndx
      refine h1.trans (Same.new ?_)
      rw [upd_ne (Ne.symm nex)]
      exact np
    have nw : H lw0 = none := sU.free nw0
    have ns : H ls0 = none := sU.free ns0
    -- given = [], place = 0
    refine ⟨(sz rfl), fun g ng => ?_⟩
    generalize hU : upd _ g _ = H1
    obtain ⟨s1, hg⟩ := new_of ng hU
    have D1 := D0.same s1
    have ngH : H g = none := s0.free ng
    obtain ⟨dx0, hp0⟩ := D0.obj
    have gp : g ≠ p := fun z => by
      subst z
      rw [hp0] at ng
      cases ng
    have gw : g ≠ lw0 := fun z => by
      subst z
      rw [D0.win] at ng
      cases ng
    have gs : g ≠ ls0 := fun z => by
      subst z
      rw [D0.sco] at ng
      cases ng
    refine ⟨fun m σ' H' => ∃ (cs ds : List (List (List Int))) (lw ls : Addr) (v4 v5 : Option V), σ' = [some (.ref ca), some (.ref p), some (.ref g), some (.int (((put cs).length : Nat) : Int)), v4, v5] ∧ cs ++ ds = all ∧ m = ds.length ∧ Same H H' ∧
      H lw = none ∧ H ls = none ∧ g ≠ lw ∧ g ≠ ls ∧ DeskAt T H' p lw ls (Pd.stt step Ks303Neutral.start cs) ∧ H' g = some (.lst ((told (played step Ks303Neutral.start cs)).map V.int)), ⟨_, [], all, lw0, ls0, none, none, rfl, rfl, rfl, s0.trans s1, nw, ns, gw, gs, ?_, hg⟩, ?_⟩
    · exact ⟨.non, [], [], [], D1, Pd.Inv.start, .nil, fun _ => rfl, fun h => (by have h' : false = true := h; cases h')⟩
    rintro m σ' H' ⟨cs, ds, lw, ls, v4, v5, rfl, eall, rfl, s2, nlw, nls, glw, gls, D2, hg2⟩
    have hs2 := s2.seq hs
    have hput : l = put cs ++ put ds := by rw [L.put, ← eall, Pd.put_append]
    refine (exE rfl (exE rfl (ex2 ca _ ⟨rfl, .inl hs2, ii2 (exE rfl ?_)⟩)))
    have hlen : l.length = (put cs).length + (put ds).length := by rw [hput, List.length_append]
    refine ite2 (fun c => ?_) (fun c => ?_)
    · cases ds with
      | nil =>
        rw [List.length_map] at c
        have z : (put ([] : List (List (List Int)))).length = 0 := rfl
        simp at c
        omega
      | cons x ds =>
        have isx : Pd.Is x := L.is x (by rw [← eall]; simp)
        have Lx : Pd.Line l (cs ++ x :: ds) := by rw [eall]; exact L
        have hx : put (x :: ds) = put1 x ++ put ds := rfl
        have hdrop : l.drop (put cs).length = put1 x ++ put ds := by
          rw [hput, hx, List.drop_left]
        have hxl : (put cs).length + (put1 x).length ≤ l.length := by
          rw [hlen, hx, List.length_append]
          omega
        refine ⟨fun σ' H' => ∃ (lw ls : Addr) (v4 v5 : Option V), σ' = [some (.ref ca), some (.ref p), some (.ref g), some (.int (((put (cs ++ [x])).length : Nat) : Int)), v4, v5] ∧ Same H H' ∧
          H lw = none ∧ H ls = none ∧ g ≠ lw ∧ g ≠ ls ∧ DeskAt T H' p lw ls (Pd.stt step Ks303Neutral.start (cs ++ [x])) ∧ H' g = some (.lst ((told (played step Ks303Neutral.start (cs ++ [x]))).map V.int)), ?_, ?_⟩
        · rintro σ' H3 ⟨lw', ls', v4', v5', rfl, h1, h2, h3, h4, h5, h6, h7⟩
          exact ⟨ds.length, Nat.lt_succ_self _, ex6 (cs ++ [x]) ds lw' ls' v4' v5' ⟨rfl, by rw [← eall]; simp, rfl, h1, h2, h3, h4, h5, h6, h7⟩⟩
        · refine (exE rfl (exE rfl (ex5 ca l ((put cs).length) x (put ds) ⟨rfl, hs2, hdrop, isx, ?_⟩)))
          refine (exE rfl (exE rfl (exE rfl (exE rfl (exE rfl (exE rfl (ii2 (exE rfl (ex2 ca _ ⟨rfl, hs2, fun cl ncl => ?_⟩)))))))))
          have ecut : cutV (l.map V.int) (some (((put cs).length : Nat) : Int)) (some ((((put cs).length : Nat) : Int) + (((put1 x).length : Nat) : Int))) = (put1 x).map V.int := by
            have h := cut_mid (xs := l.map V.int) (m := (put cs).length) (n := (put cs).length + (put1 x).length) (by omega) (by rw [List.length_map]; exact hxl)
            rw [show (((put cs).length + (put1 x).length : Nat) : Int) = (((put cs).length : Nat) : Int) + (((put1 x).length : Nat) : Int) by omega, ← List.map_drop, hdrop, List.map_append] at h
            rw [show (put cs).length + (put1 x).length - (put cs).length = ((put1 x).map V.int).length by rw [List.length_map]; omega, List.take_left] at h
            exact h
          dsimp only
          rw [ecut]
          generalize hU3 : upd _ cl _ = H3
          obtain ⟨s3, hcl⟩ := new_of ncl hU3
          have hg3 := s3 _ _ hg2
          refine (ex6 p lw ls cl _ x ⟨rfl, D2.same s3, hcl, isx, by omega, fun H4 lw' ls' an D4 e1 e2 kp na han => ?_⟩)
          have gan : g ≠ an := na g _ hg3 gp glw gls
          have hg4 := kp g _ hg3 gp glw gls
          have nlw' : H lw' = none := by
            rcases e1 with e1 | e1
            · rw [e1]; exact nlw
            · exact (s2.trans s3).free e1
          have nls' : H ls' = none := by
            rcases e2 with e2 | e2
            · rw [e2]; exact nls
            · exact (s2.trans s3).free e2
          have glw' : g ≠ lw' := by
            rcases e1 with e1 | e1
            · rw [e1]; exact glw
            · exact ne_of_none hg3 e1
          have gls' : g ≠ ls' := by
            rcases e2 with e2 | e2
            · rw [e2]; exact gls
            · exact ne_of_none hg3 e2
          have s4 : Same H H4 := fun b o e => kp b o ((s2.trans s3) _ _ e) (ne_of_none e np) (ne_of_none e nlw) (ne_of_none e nls)
          have hal := Pd.act_len Lx
          -- given.append(len(answer)); given.extend(answer)
          refine (exE rfl ⟨.inl ⟨rfl, _, SqL.of hg4⟩, exE rfl (ex2 an _ ⟨rfl, .inl (SqL.of han), ex3 g _ _ ⟨rfl, rfl, hg4, (by rw [List.length_map, sizeLine_eq]; omega), ?_⟩⟩)⟩)
          generalize hU5 : upd H4 g _ = H5
          obtain ⟨hg5, o5⟩ := wr_of hU5
          have han5 := (o5 an (Ne.symm gan)).trans han
          refine (exE rfl ⟨.inl ⟨rfl, _, SqL.of hg5⟩, exE rfl (ex4 g an _ _ ⟨rfl, rfl, hg5, han5, (by simp only [List.length_append, List.length_map, List.length_singleton]; rw [sizeLine_eq]; omega), ?_⟩)⟩)
          generalize hU6 : upd H5 g _ = H6
          obtain ⟨hg6, o56⟩ := wr_of hU6
          have o6 : ∀ b, b ≠ g → H6 b = H4 b := fun b hb => (o56 b hb).trans (o5 b hb)
          have D6 : DeskAt T H6 p lw' ls' (step (Pd.stt step Ks303Neutral.start cs) x).1 := by
            obtain ⟨vr, ws, ts, as, q1, q2, q3, q4, q5⟩ := D4.ex
            have i46 : Imm H4 H6 := fun b o e f => by
              refine (o6 b (fun z => ?_)).trans e
              subst z
              rw [hg4] at e
              cases e
              exact absurd f (by simp [fixed])
            obtain ⟨dz, hz⟩ := q1.obj
            exact ⟨vr, ws, ts, as, ⟨⟨dz, (o6 p (Ne.symm gp)).trans hz⟩, (o6 lw' (Ne.symm glw')).trans q1.win, (o6 ls' (Ne.symm gls')).trans q1.sco, q1.ne⟩, q2, paired_imp (fun _ _ q => ScoreAt.imm i46 q) q3, q4, fun o => let ⟨ra, e, q⟩ := q5 o; ⟨ra, e, q.imm i46⟩⟩
          refine (exE rfl (exE rfl (ii2 ⟨lw', ls', some (.int (((put1 x).length : Nat) : Int)), some (.ref an), ?_, ?_, nlw', nls', glw', gls', ?_, ?_⟩)))
          · have e : (((put (cs ++ [x])).length : Nat) : Int) = (((put cs).length : Nat) : Int) + (((put1 x).length : Nat) : Int) := by
              rw [Pd.put_append, List.length_append]
              show (((put cs).length + (put1 x ++ put []).length : Nat) : Int) = _
              rw [List.length_append]
              show (((put cs).length + ((put1 x).length + 0) : Nat) : Int) = _
              omega
            rw [e]
            rfl
          · intro b o e
            rw [o6 b (ne_of_none e ngH)]
            exact s4 _ _ e
          · rw [Pd.stt_snoc]
            exact D6
          · rw [hg6, Pd.played_snoc, Pd.told_snoc, List.map_append, List.append_assoc, List.map_cons, List.length_map]
            rfl
    · have e : ds = [] := by
        cases ds with
        | nil => rfl
        | cons x ds =>
          have isx : Pd.Is x := L.is x (by rw [← eall]; simp)
          have h1 := put1_pos isx
          have h2 : (put (x :: ds)).length = (put1 x).length + (put ds).length := by
            show (put1 x ++ put ds).length = _
            rw [List.length_append]
          rw [List.length_map] at c
          simp at c
          omega
      subst e
      rw [List.append_nil] at eall
      subst eall
      refine (exE rfl (k H' g ?_))
      rw [hg2, L.ans]
end
end Pt

end
set_option Elab.async false
set_option linter.all false
set_option maxRecDepth 100000
set_option maxHeartbeats 0
namespace Pt
open PySem PySem.Spec PyProof.Rows L2
/-! ### what the top has written -/
theorem len0 {P : List Value → Prop} {us : List Value} (h : Unit → P []) (e : us.length = 0) : P us := by
  rw [List.eq_nil_of_length_eq_zero e]
  exact h ()
theorem len1 {P : List Value → Prop} {us : List Value} (h : ∀ a, P [a]) (e : us.length = 1) : P us := by
  match us, e with
  | [a], _ => exact h a
theorem len2 {P : List Value → Prop} {us : List Value} (h : ∀ a b, P [a, b]) (e : us.length = 2) : P us := by
  cases us with
  | nil => cases e
  | cons a us => exact len1 (P := fun us => P (a :: us)) (h a) (Nat.succ.inj e)
theorem len3 {P : List Value → Prop} {us : List Value} (h : ∀ a b c, P [a, b, c]) (e : us.length = 3) : P us := by
  cases us with
  | nil => cases e
  | cons a us => exact len2 (P := fun us => P (a :: us)) (h a) (Nat.succ.inj e)
theorem len4 {P : List Value → Prop} {us : List Value} (h : ∀ a b c d, P [a, b, c, d]) (e : us.length = 4) : P us := by
  cases us with
  | nil => cases e
  | cons a us => exact len3 (P := fun us => P (a :: us)) (h a) (Nat.succ.inj e)
theorem len5 {P : List Value → Prop} {us : List Value} (h : ∀ a b c d f, P [a, b, c, d, f]) (e : us.length = 5) : P us := by
  cases us with
  | nil => cases e
  | cons a us => exact len4 (P := fun us => P (a :: us)) (h a) (Nat.succ.inj e)
theorem tx_mk {K : PySem.W.Frag} {h : Heap} {mg : Str → Option Value} {C_Rules C_Score C_Desk f1 f2 f3 f4 f5 f6 f7 f8 f9 f10 f11 f12 f13 f14 f15 f16 f17 f18 f19 f20 f21 f22 f23 f24 f25 f26 f27 f28 f29 f30 f31 f32 f33 f34 f35 f36 f37 f38 f39 f40 p_CALL_LENGTHS p_POINT_TEXTS : Addr}
    {od1 an1 od2 an2 od3 an3 od4 an4 od5 an5 od6 an6 od7 an7 od8 an8 od9 an9 od10 an10 od11 an11 od12 an12 od13 an13 od14 an14 od15 an15 od16 an16 od17 an17 od18 an18 od19 an19 od20 an20 od21 an21 od22 an22 od23 an23 od24 an24 od25 an25 od26 an26 od27 an27 od28 an28 od29 an29 od30 an30 od31 an31 od32 an32 od33 an33 od34 an34 od35 an35 od36 an36 od37 an37 od38 an38 od39 an39 od40 an40 o_CALL_LENGTHS o_POINT_TEXTS : Option Addr} {sl1 sl2 sl3 sl4 sl5 sl6 sl7 sl8 sl9 sl10 sl11 sl12 sl13 sl14 sl15 sl16 sl17 sl18 sl19 sl20 sl21 sl22 sl23 sl24 sl25 sl26 sl27 sl28 sl29 sl30 sl31 sl32 sl33 sl34 sl35 sl36 sl37 sl38 sl39 sl40 s_CALL_LENGTHS s_POINT_TEXTS : Array (Option Value)} {oc1 kV1 dc1 pm1 cd1 ct1 oc2 kV2 dc2 pm2 cd2 ct2 oc3 kV3 dc3 pm3 cd3 ct3 oc4 kV4 dc4 pm4 cd4 ct4 oc5 kV5 dc5 pm5 cd5 ct5 oc6 kV6 dc6 pm6 cd6 ct6 oc7 kV7 dc7 pm7 cd7 ct7 oc8 kV8 dc8 pm8 cd8 ct8 oc9 kV9 dc9 pm9 cd9 ct9 oc10 kV10 dc10 pm10 cd10 ct10 oc11 kV11 dc11 pm11 cd11 ct11 oc12 kV12 dc12 pm12 cd12 ct12 oc13 kV13 dc13 pm13 cd13 ct13 oc14 kV14 dc14 pm14 cd14 ct14 oc15 kV15 dc15 pm15 cd15 ct15 oc16 kV16 dc16 pm16 cd16 ct16 oc17 kV17 dc17 pm17 cd17 ct17 oc18 kV18 dc18 pm18 cd18 ct18 oc19 kV19 dc19 pm19 cd19 ct19 oc20 kV20 dc20 pm20 cd20 ct20 oc21 kV21 dc21 pm21 cd21 ct21 oc22 kV22 dc22 pm22 cd22 ct22 oc23 kV23 dc23 pm23 cd23 ct23 oc24 kV24 dc24 pm24 cd24 ct24 oc25 kV25 dc25 pm25 cd25 ct25 oc26 kV26 dc26 pm26 cd26 ct26 oc27 kV27 dc27 pm27 cd27 ct27 oc28 kV28 dc28 pm28 cd28 ct28 oc29 kV29 dc29 pm29 cd29 ct29 oc30 kV30 dc30 pm30 cd30 ct30 oc31 kV31 dc31 pm31 cd31 ct31 oc32 kV32 dc32 pm32 cd32 ct32 oc33 kV33 dc33 pm33 cd33 ct33 oc34 kV34 dc34 pm34 cd34 ct34 oc35 kV35 dc35 pm35 cd35 ct35 oc36 kV36 dc36 pm36 cd36 ct36 oc37 kV37 dc37 pm37 cd37 ct37 oc38 kV38 dc38 pm38 cd38 ct38 oc39 kV39 dc39 pm39 cd39 ct39 oc40 kV40 dc40 pm40 cd40 ct40 c_CALL_LENGTHS c_POINT_TEXTS : Value} {t_GAME_POINTS t_TIE_BREAK_POINTS t_LEAD t_POINTS_TO_AN_ENDS_CHANGE t_BEGIN t_TOLD t_POINT t_BACK t_RIGHT t_SCORE t_NEXT t_NEED t_NO_SUCH_POINT t_TOO_MANY_POINTS t_MATCH_IS_OVER t_OUT_OF_RANGE t_CANNOT_BE t_NO_RULES t_TOLD_TOO_MUCH t_MOST_SETS_TO_WIN t_LEAST_GAMES t_MOST_GAMES t_MOST_POINTS t_MOST_SETS_TOLD t_MOST_TOLD t_CHANGED_ENDS : Tok} {e_CALL_LENGTHS : Array DictEntry} {n_CALL_LENGTHS : Nat} {e_POINT_TEXTS : Array Value} {n_POINT_TEXTS : Nat} (X : K.In h) (G : h.Ns mainGlobals mg)
    (a_Rules : PySem.W.nsIn K mainGlobals "Rules" = some (some (.ref C_Rules)))
    (a_Score : PySem.W.nsIn K mainGlobals "Score" = some (some (.ref C_Score)))
    (a_Desk : PySem.W.nsIn K mainGlobals "Desk" = some (some (.ref C_Desk)))
    (a1 : PySem.W.findIn K (.ref C_Rules) "__init__" = some (some (.ref f1)))
    (i1 : PySem.W.isFn K (.ref f1) = true)
    (l1 : K.lookup f1 = some ⟨oc1, od1, .func (PySem.W.fnOf "__init__" "Rules.__init__" (defArgs s_Rules_init) (defBody s_Rules_init) (defScope s_Rules_init) .none kV1 dc1 pm1 an1 cd1 ct1), sl1⟩)
    (cc1 : PySem.W.codeIn K cd1 "Rules.__init__" = true)
    (k1 : PySem.W.keepIn K (.ref f1) = true)
    (a2 : PySem.W.findIn K (.ref C_Score) "__init__" = some (some (.ref f2)))
    (i2 : PySem.W.isFn K (.ref f2) = true)
    (l2 : K.lookup f2 = some ⟨oc2, od2, .func (PySem.W.fnOf "__init__" "Score.__init__" (defArgs s_Score_init) (defBody s_Score_init) (defScope s_Score_init) .none kV2 dc2 pm2 an2 cd2 ct2), sl2⟩)
    (cc2 : PySem.W.codeIn K cd2 "Score.__init__" = true)
    (k2 : PySem.W.keepIn K (.ref f2) = true)
    (a3 : PySem.W.nsIn K mainGlobals "first_score" = some (some (.ref f3)))
    (l3 : K.lookup f3 = some ⟨oc3, od3, .func (PySem.W.fnOf "first_score" "first_score" (defArgs s_first_score) (defBody s_first_score) (defScope s_first_score) .none kV3 dc3 pm3 an3 cd3 ct3), sl3⟩)
    (cc3 : PySem.W.codeIn K cd3 "first_score" = true)
    (k3 : PySem.W.keepIn K (.ref f3) = true)
    (a4 : PySem.W.nsIn K mainGlobals "match_over" = some (some (.ref f4)))
    (l4 : K.lookup f4 = some ⟨oc4, od4, .func (PySem.W.fnOf "match_over" "match_over" (defArgs s_match_over) (defBody s_match_over) (defScope s_match_over) .none kV4 dc4 pm4 an4 cd4 ct4), sl4⟩)
    (cc4 : PySem.W.codeIn K cd4 "match_over" = true)
    (k4 : PySem.W.keepIn K (.ref f4) = true)
    (a5 : PySem.W.nsIn K mainGlobals "goes_on_without_tie_break" = some (some (.ref f5)))
    (l5 : K.lookup f5 = some ⟨oc5, od5, .func (PySem.W.fnOf "goes_on_without_tie_break" "goes_on_without_tie_break" (defArgs s_goes_on_without_tie_break) (defBody s_goes_on_without_tie_break) (defScope s_goes_on_without_tie_break) .none kV5 dc5 pm5 an5 cd5 ct5), sl5⟩)
    (cc5 : PySem.W.codeIn K cd5 "goes_on_without_tie_break" = true)
    (k5 : PySem.W.keepIn K (.ref f5) = true)
    (a6 : PySem.W.nsIn K mainGlobals "in_tie_break" = some (some (.ref f6)))
    (l6 : K.lookup f6 = some ⟨oc6, od6, .func (PySem.W.fnOf "in_tie_break" "in_tie_break" (defArgs s_in_tie_break) (defBody s_in_tie_break) (defScope s_in_tie_break) .none kV6 dc6 pm6 an6 cd6 ct6), sl6⟩)
    (cc6 : PySem.W.codeIn K cd6 "in_tie_break" = true)
    (k6 : PySem.W.keepIn K (.ref f6) = true)
    (a7 : PySem.W.nsIn K mainGlobals "one_more" = some (some (.ref f7)))
    (l7 : K.lookup f7 = some ⟨oc7, od7, .func (PySem.W.fnOf "one_more" "one_more" (defArgs s_one_more) (defBody s_one_more) (defScope s_one_more) .none kV7 dc7 pm7 an7 cd7 ct7), sl7⟩)
    (cc7 : PySem.W.codeIn K cd7 "one_more" = true)
    (k7 : PySem.W.keepIn K (.ref f7) = true)
    (a8 : PySem.W.nsIn K mainGlobals "has_won" = some (some (.ref f8)))
    (l8 : K.lookup f8 = some ⟨oc8, od8, .func (PySem.W.fnOf "has_won" "has_won" (defArgs s_has_won) (defBody s_has_won) (defScope s_has_won) .none kV8 dc8 pm8 an8 cd8 ct8), sl8⟩)
    (cc8 : PySem.W.codeIn K cd8 "has_won" = true)
    (k8 : PySem.W.keepIn K (.ref f8) = true)
    (a9 : PySem.W.nsIn K mainGlobals "after_point" = some (some (.ref f9)))
    (l9 : K.lookup f9 = some ⟨oc9, od9, .func (PySem.W.fnOf "after_point" "after_point" (defArgs s_after_point) (defBody s_after_point) (defScope s_after_point) .none kV9 dc9 pm9 an9 cd9 ct9), sl9⟩)
    (cc9 : PySem.W.codeIn K cd9 "after_point" = true)
    (k9 : PySem.W.keepIn K (.ref f9) = true)
    (a10 : PySem.W.nsIn K mainGlobals "after_game" = some (some (.ref f10)))
    (l10 : K.lookup f10 = some ⟨oc10, od10, .func (PySem.W.fnOf "after_game" "after_game" (defArgs s_after_game) (defBody s_after_game) (defScope s_after_game) .none kV10 dc10 pm10 an10 cd10 ct10), sl10⟩)
    (cc10 : PySem.W.codeIn K cd10 "after_game" = true)
    (k10 : PySem.W.keepIn K (.ref f10) = true)
    (a11 : PySem.W.nsIn K mainGlobals "after_set" = some (some (.ref f11)))
    (l11 : K.lookup f11 = some ⟨oc11, od11, .func (PySem.W.fnOf "after_set" "after_set" (defArgs s_after_set) (defBody s_after_set) (defScope s_after_set) .none kV11 dc11 pm11 an11 cd11 ct11), sl11⟩)
    (cc11 : PySem.W.codeIn K cd11 "after_set" = true)
    (k11 : PySem.W.keepIn K (.ref f11) = true)
    (a12 : PySem.W.nsIn K mainGlobals "score_text" = some (some (.ref f12)))
    (l12 : K.lookup f12 = some ⟨oc12, od12, .func (PySem.W.fnOf "score_text" "score_text" (defArgs s_score_text) (defBody s_score_text) (defScope s_score_text) .none kV12 dc12 pm12 an12 cd12 ct12), sl12⟩)
    (cc12 : PySem.W.codeIn K cd12 "score_text" = true)
    (k12 : PySem.W.keepIn K (.ref f12) = true)
    (a13 : PySem.W.nsIn K mainGlobals "set_text" = some (some (.ref f13)))
    (l13 : K.lookup f13 = some ⟨oc13, od13, .func (PySem.W.fnOf "set_text" "set_text" (defArgs s_set_text) (defBody s_set_text) (defScope s_set_text) .none kV13 dc13 pm13 an13 cd13 ct13), sl13⟩)
    (cc13 : PySem.W.codeIn K cd13 "set_text" = true)
    (k13 : PySem.W.keepIn K (.ref f13) = true)
    (a14 : PySem.W.nsIn K mainGlobals "pair_text" = some (some (.ref f14)))
    (l14 : K.lookup f14 = some ⟨oc14, od14, .func (PySem.W.fnOf "pair_text" "pair_text" (defArgs s_pair_text) (defBody s_pair_text) (defScope s_pair_text) .none kV14 dc14 pm14 an14 cd14 ct14), sl14⟩)
    (cc14 : PySem.W.codeIn K cd14 "pair_text" = true)
    (k14 : PySem.W.keepIn K (.ref f14) = true)
    (a15 : PySem.W.nsIn K mainGlobals "points_text" = some (some (.ref f15)))
    (l15 : K.lookup f15 = some ⟨oc15, od15, .func (PySem.W.fnOf "points_text" "points_text" (defArgs s_points_text) (defBody s_points_text) (defScope s_points_text) .none kV15 dc15 pm15 an15 cd15 ct15), sl15⟩)
    (cc15 : PySem.W.codeIn K cd15 "points_text" = true)
    (k15 : PySem.W.keepIn K (.ref f15) = true)
    (a16 : PySem.W.nsIn K mainGlobals "won_by_tie_break" = some (some (.ref f16)))
    (l16 : K.lookup f16 = some ⟨oc16, od16, .func (PySem.W.fnOf "won_by_tie_break" "won_by_tie_break" (defArgs s_won_by_tie_break) (defBody s_won_by_tie_break) (defScope s_won_by_tie_break) .none kV16 dc16 pm16 an16 cd16 ct16), sl16⟩)
    (cc16 : PySem.W.codeIn K cd16 "won_by_tie_break" = true)
    (k16 : PySem.W.keepIn K (.ref f16) = true)
    (a17 : PySem.W.nsIn K mainGlobals "server" = some (some (.ref f17)))
    (l17 : K.lookup f17 = some ⟨oc17, od17, .func (PySem.W.fnOf "server" "server" (defArgs s_server) (defBody s_server) (defScope s_server) .none kV17 dc17 pm17 an17 cd17 ct17), sl17⟩)
    (cc17 : PySem.W.codeIn K cd17 "server" = true)
    (k17 : PySem.W.keepIn K (.ref f17) = true)
    (a18 : PySem.W.nsIn K mainGlobals "ends_changed" = some (some (.ref f18)))
    (l18 : K.lookup f18 = some ⟨oc18, od18, .func (PySem.W.fnOf "ends_changed" "ends_changed" (defArgs s_ends_changed) (defBody s_ends_changed) (defScope s_ends_changed) .none kV18 dc18 pm18 an18 cd18 ct18), sl18⟩)
    (cc18 : PySem.W.codeIn K cd18 "ends_changed" = true)
    (k18 : PySem.W.keepIn K (.ref f18) = true)
    (a19 : PySem.W.nsIn K mainGlobals "changes_behind_games" = some (some (.ref f19)))
    (l19 : K.lookup f19 = some ⟨oc19, od19, .func (PySem.W.fnOf "changes_behind_games" "changes_behind_games" (defArgs s_changes_behind_games) (defBody s_changes_behind_games) (defScope s_changes_behind_games) .none kV19 dc19 pm19 an19 cd19 ct19), sl19⟩)
    (cc19 : PySem.W.codeIn K cd19 "changes_behind_games" = true)
    (k19 : PySem.W.keepIn K (.ref f19) = true)
    (a20 : PySem.W.nsIn K mainGlobals "changes_within_tie_break" = some (some (.ref f20)))
    (l20 : K.lookup f20 = some ⟨oc20, od20, .func (PySem.W.fnOf "changes_within_tie_break" "changes_within_tie_break" (defArgs s_changes_within_tie_break) (defBody s_changes_within_tie_break) (defScope s_changes_within_tie_break) .none kV20 dc20 pm20 an20 cd20 ct20), sl20⟩)
    (cc20 : PySem.W.codeIn K cd20 "changes_within_tie_break" = true)
    (k20 : PySem.W.keepIn K (.ref f20) = true)
    (a21 : PySem.W.nsIn K mainGlobals "points_needed" = some (some (.ref f21)))
    (l21 : K.lookup f21 = some ⟨oc21, od21, .func (PySem.W.fnOf "points_needed" "points_needed" (defArgs s_points_needed) (defBody s_points_needed) (defScope s_points_needed) .none kV21 dc21 pm21 an21 cd21 ct21), sl21⟩)
    (cc21 : PySem.W.codeIn K cd21 "points_needed" = true)
    (k21 : PySem.W.keepIn K (.ref f21) = true)
    (a22 : PySem.W.nsIn K mainGlobals "told_score" = some (some (.ref f22)))
    (l22 : K.lookup f22 = some ⟨oc22, od22, .func (PySem.W.fnOf "told_score" "told_score" (defArgs s_told_score) (defBody s_told_score) (defScope s_told_score) .none kV22 dc22 pm22 an22 cd22 ct22), sl22⟩)
    (cc22 : PySem.W.codeIn K cd22 "told_score" = true)
    (k22 : PySem.W.keepIn K (.ref f22) = true)
    (a23 : PySem.W.nsIn K mainGlobals "score_of_sets" = some (some (.ref f23)))
    (l23 : K.lookup f23 = some ⟨oc23, od23, .func (PySem.W.fnOf "score_of_sets" "score_of_sets" (defArgs s_score_of_sets) (defBody s_score_of_sets) (defScope s_score_of_sets) .none kV23 dc23 pm23 an23 cd23 ct23), sl23⟩)
    (cc23 : PySem.W.codeIn K cd23 "score_of_sets" = true)
    (k23 : PySem.W.keepIn K (.ref f23) = true)
    (a24 : PySem.W.nsIn K mainGlobals "set_can_end" = some (some (.ref f24)))
    (l24 : K.lookup f24 = some ⟨oc24, od24, .func (PySem.W.fnOf "set_can_end" "set_can_end" (defArgs s_set_can_end) (defBody s_set_can_end) (defScope s_set_can_end) .none kV24 dc24 pm24 an24 cd24 ct24), sl24⟩)
    (cc24 : PySem.W.codeIn K cd24 "set_can_end" = true)
    (k24 : PySem.W.keepIn K (.ref f24) = true)
    (a25 : PySem.W.nsIn K mainGlobals "games_can_be" = some (some (.ref f25)))
    (l25 : K.lookup f25 = some ⟨oc25, od25, .func (PySem.W.fnOf "games_can_be" "games_can_be" (defArgs s_games_can_be) (defBody s_games_can_be) (defScope s_games_can_be) .none kV25 dc25 pm25 an25 cd25 ct25), sl25⟩)
    (cc25 : PySem.W.codeIn K cd25 "games_can_be" = true)
    (k25 : PySem.W.keepIn K (.ref f25) = true)
    (a26 : PySem.W.nsIn K mainGlobals "points_can_be" = some (some (.ref f26)))
    (l26 : K.lookup f26 = some ⟨oc26, od26, .func (PySem.W.fnOf "points_can_be" "points_can_be" (defArgs s_points_can_be) (defBody s_points_can_be) (defScope s_points_can_be) .none kV26 dc26 pm26 an26 cd26 ct26), sl26⟩)
    (cc26 : PySem.W.codeIn K cd26 "points_can_be" = true)
    (k26 : PySem.W.keepIn K (.ref f26) = true)
    (a27 : PySem.W.findIn K (.ref C_Desk) "__init__" = some (some (.ref f27)))
    (i27 : PySem.W.isFn K (.ref f27) = true)
    (l27 : K.lookup f27 = some ⟨oc27, od27, .func (PySem.W.fnOf "__init__" "Desk.__init__" (defArgs s_Desk_init) (defBody s_Desk_init) (defScope s_Desk_init) .none kV27 dc27 pm27 an27 cd27 ct27), sl27⟩)
    (cc27 : PySem.W.codeIn K cd27 "Desk.__init__" = true)
    (k27 : PySem.W.keepIn K (.ref f27) = true)
    (a28 : PySem.W.findIn K (.ref C_Desk) "begin" = some (some (.ref f28)))
    (i28 : PySem.W.isFn K (.ref f28) = true)
    (l28 : K.lookup f28 = some ⟨oc28, od28, .func (PySem.W.fnOf "begin" "Desk.begin" (defArgs s_Desk_begin) (defBody s_Desk_begin) (defScope s_Desk_begin) .none kV28 dc28 pm28 an28 cd28 ct28), sl28⟩)
    (cc28 : PySem.W.codeIn K cd28 "Desk.begin" = true)
    (k28 : PySem.W.keepIn K (.ref f28) = true)
    (a29 : PySem.W.findIn K (.ref C_Desk) "go_on_from" = some (some (.ref f29)))
    (i29 : PySem.W.isFn K (.ref f29) = true)
    (l29 : K.lookup f29 = some ⟨oc29, od29, .func (PySem.W.fnOf "go_on_from" "Desk.go_on_from" (defArgs s_Desk_go_on_from) (defBody s_Desk_go_on_from) (defScope s_Desk_go_on_from) .none kV29 dc29 pm29 an29 cd29 ct29), sl29⟩)
    (cc29 : PySem.W.codeIn K cd29 "Desk.go_on_from" = true)
    (k29 : PySem.W.keepIn K (.ref f29) = true)
    (a30 : PySem.W.findIn K (.ref C_Desk) "told" = some (some (.ref f30)))
    (i30 : PySem.W.isFn K (.ref f30) = true)
    (l30 : K.lookup f30 = some ⟨oc30, od30, .func (PySem.W.fnOf "told" "Desk.told" (defArgs s_Desk_told) (defBody s_Desk_told) (defScope s_Desk_told) .none kV30 dc30 pm30 an30 cd30 ct30), sl30⟩)
    (cc30 : PySem.W.codeIn K cd30 "Desk.told" = true)
    (k30 : PySem.W.keepIn K (.ref f30) = true)
    (a31 : PySem.W.findIn K (.ref C_Desk) "point" = some (some (.ref f31)))
    (i31 : PySem.W.isFn K (.ref f31) = true)
    (l31 : K.lookup f31 = some ⟨oc31, od31, .func (PySem.W.fnOf "point" "Desk.point" (defArgs s_Desk_point) (defBody s_Desk_point) (defScope s_Desk_point) .none kV31 dc31 pm31 an31 cd31 ct31), sl31⟩)
    (cc31 : PySem.W.codeIn K cd31 "Desk.point" = true)
    (k31 : PySem.W.keepIn K (.ref f31) = true)
    (a32 : PySem.W.findIn K (.ref C_Desk) "back" = some (some (.ref f32)))
    (i32 : PySem.W.isFn K (.ref f32) = true)
    (l32 : K.lookup f32 = some ⟨oc32, od32, .func (PySem.W.fnOf "back" "Desk.back" (defArgs s_Desk_back) (defBody s_Desk_back) (defScope s_Desk_back) .none kV32 dc32 pm32 an32 cd32 ct32), sl32⟩)
    (cc32 : PySem.W.codeIn K cd32 "Desk.back" = true)
    (k32 : PySem.W.keepIn K (.ref f32) = true)
    (a33 : PySem.W.findIn K (.ref C_Desk) "right" = some (some (.ref f33)))
    (i33 : PySem.W.isFn K (.ref f33) = true)
    (l33 : K.lookup f33 = some ⟨oc33, od33, .func (PySem.W.fnOf "right" "Desk.right" (defArgs s_Desk_right) (defBody s_Desk_right) (defScope s_Desk_right) .none kV33 dc33 pm33 an33 cd33 ct33), sl33⟩)
    (cc33 : PySem.W.codeIn K cd33 "Desk.right" = true)
    (k33 : PySem.W.keepIn K (.ref f33) = true)
    (a34 : PySem.W.findIn K (.ref C_Desk) "score" = some (some (.ref f34)))
    (i34 : PySem.W.isFn K (.ref f34) = true)
    (l34 : K.lookup f34 = some ⟨oc34, od34, .func (PySem.W.fnOf "score" "Desk.score" (defArgs s_Desk_score) (defBody s_Desk_score) (defScope s_Desk_score) .none kV34 dc34 pm34 an34 cd34 ct34), sl34⟩)
    (cc34 : PySem.W.codeIn K cd34 "Desk.score" = true)
    (k34 : PySem.W.keepIn K (.ref f34) = true)
    (a35 : PySem.W.findIn K (.ref C_Desk) "serving" = some (some (.ref f35)))
    (i35 : PySem.W.isFn K (.ref f35) = true)
    (l35 : K.lookup f35 = some ⟨oc35, od35, .func (PySem.W.fnOf "serving" "Desk.serving" (defArgs s_Desk_serving) (defBody s_Desk_serving) (defScope s_Desk_serving) .none kV35 dc35 pm35 an35 cd35 ct35), sl35⟩)
    (cc35 : PySem.W.codeIn K cd35 "Desk.serving" = true)
    (k35 : PySem.W.keepIn K (.ref f35) = true)
    (a36 : PySem.W.findIn K (.ref C_Desk) "need" = some (some (.ref f36)))
    (i36 : PySem.W.isFn K (.ref f36) = true)
    (l36 : K.lookup f36 = some ⟨oc36, od36, .func (PySem.W.fnOf "need" "Desk.need" (defArgs s_Desk_need) (defBody s_Desk_need) (defScope s_Desk_need) .none kV36 dc36 pm36 an36 cd36 ct36), sl36⟩)
    (cc36 : PySem.W.codeIn K cd36 "Desk.need" = true)
    (k36 : PySem.W.keepIn K (.ref f36) = true)
    (a37 : PySem.W.findIn K (.ref C_Desk) "counts" = some (some (.ref f37)))
    (i37 : PySem.W.isFn K (.ref f37) = true)
    (l37 : K.lookup f37 = some ⟨oc37, od37, .func (PySem.W.fnOf "counts" "Desk.counts" (defArgs s_Desk_counts) (defBody s_Desk_counts) (defScope s_Desk_counts) .none kV37 dc37 pm37 an37 cd37 ct37), sl37⟩)
    (cc37 : PySem.W.codeIn K cd37 "Desk.counts" = true)
    (k37 : PySem.W.keepIn K (.ref f37) = true)
    (a38 : PySem.W.nsIn K mainGlobals "call_length" = some (some (.ref f38)))
    (l38 : K.lookup f38 = some ⟨oc38, od38, .func (PySem.W.fnOf "call_length" "call_length" (defArgs s_call_length) (defBody s_call_length) (defScope s_call_length) .none kV38 dc38 pm38 an38 cd38 ct38), sl38⟩)
    (cc38 : PySem.W.codeIn K cd38 "call_length" = true)
    (k38 : PySem.W.keepIn K (.ref f38) = true)
    (a39 : PySem.W.nsIn K mainGlobals "answer_to" = some (some (.ref f39)))
    (l39 : K.lookup f39 = some ⟨oc39, od39, .func (PySem.W.fnOf "answer_to" "answer_to" (defArgs s_answer_to) (defBody s_answer_to) (defScope s_answer_to) .none kV39 dc39 pm39 an39 cd39 ct39), sl39⟩)
    (cc39 : PySem.W.codeIn K cd39 "answer_to" = true)
    (k39 : PySem.W.keepIn K (.ref f39) = true)
    (a40 : PySem.W.nsIn K mainGlobals "answers" = some (some (.ref f40)))
    (l40 : K.lookup f40 = some ⟨oc40, od40, .func (PySem.W.fnOf "answers" "answers" (defArgs s_answers) (defBody s_answers) (defScope s_answers) .none kV40 dc40 pm40 an40 cd40 ct40), sl40⟩)
    (cc40 : PySem.W.codeIn K cd40 "answers" = true)
    (k40 : PySem.W.keepIn K (.ref f40) = true)
    (pg_Rules : PySem.W.plainGet K C_Rules Str.empty = true)
    (hd_Rules : PySem.W.hasDictIn K C_Rules = true)
    (po_Rules : PySem.W.plainOver K C_Rules = true)
    (sa_Rules : PySem.W.findIn K (.ref C_Rules) "__setattr__" = some (some (.builtin "object.__setattr__")))
    (mk_Rules : PySem.W.makesIn K C_Rules = true)
    (kc_Rules : PySem.W.keepIn K (.ref C_Rules) = true)
    (n_Rules_sets : PySem.W.findIn K (.ref C_Rules) "sets" = some none)
    (n_Rules_games : PySem.W.findIn K (.ref C_Rules) "games" = some none)
    (n_Rules_long : PySem.W.findIn K (.ref C_Rules) "long" = some none)
    (n_Rules_short : PySem.W.findIn K (.ref C_Rules) "short" = some none)
    (pg_Score : PySem.W.plainGet K C_Score Str.empty = true)
    (hd_Score : PySem.W.hasDictIn K C_Score = true)
    (po_Score : PySem.W.plainOver K C_Score = true)
    (sa_Score : PySem.W.findIn K (.ref C_Score) "__setattr__" = some (some (.builtin "object.__setattr__")))
    (mk_Score : PySem.W.makesIn K C_Score = true)
    (kc_Score : PySem.W.keepIn K (.ref C_Score) = true)
    (n_Score_done : PySem.W.findIn K (.ref C_Score) "done" = some none)
    (n_Score_won : PySem.W.findIn K (.ref C_Score) "won" = some none)
    (n_Score_games : PySem.W.findIn K (.ref C_Score) "games" = some none)
    (n_Score_points : PySem.W.findIn K (.ref C_Score) "points" = some none)
    (pg_Desk : PySem.W.plainGet K C_Desk Str.empty = true)
    (hd_Desk : PySem.W.hasDictIn K C_Desk = true)
    (po_Desk : PySem.W.plainOver K C_Desk = true)
    (sa_Desk : PySem.W.findIn K (.ref C_Desk) "__setattr__" = some (some (.builtin "object.__setattr__")))
    (mk_Desk : PySem.W.makesIn K C_Desk = true)
    (kc_Desk : PySem.W.keepIn K (.ref C_Desk) = true)
    (n_Desk_rules : PySem.W.findIn K (.ref C_Desk) "rules" = some none)
    (n_Desk_winners : PySem.W.findIn K (.ref C_Desk) "winners" = some none)
    (n_Desk_scores : PySem.W.findIn K (.ref C_Desk) "scores" = some none)
    (v_GAME_POINTS : PySem.W.nsIn K mainGlobals "GAME_POINTS" = some (some (.int (4) t_GAME_POINTS)))
    (v_TIE_BREAK_POINTS : PySem.W.nsIn K mainGlobals "TIE_BREAK_POINTS" = some (some (.int (7) t_TIE_BREAK_POINTS)))
    (v_LEAD : PySem.W.nsIn K mainGlobals "LEAD" = some (some (.int (2) t_LEAD)))
    (v_POINTS_TO_AN_ENDS_CHANGE : PySem.W.nsIn K mainGlobals "POINTS_TO_AN_ENDS_CHANGE" = some (some (.int (6) t_POINTS_TO_AN_ENDS_CHANGE)))
    (v_BEGIN : PySem.W.nsIn K mainGlobals "BEGIN" = some (some (.int (0) t_BEGIN)))
    (v_TOLD : PySem.W.nsIn K mainGlobals "TOLD" = some (some (.int (1) t_TOLD)))
    (v_POINT : PySem.W.nsIn K mainGlobals "POINT" = some (some (.int (2) t_POINT)))
    (v_BACK : PySem.W.nsIn K mainGlobals "BACK" = some (some (.int (3) t_BACK)))
    (v_RIGHT : PySem.W.nsIn K mainGlobals "RIGHT" = some (some (.int (4) t_RIGHT)))
    (v_SCORE : PySem.W.nsIn K mainGlobals "SCORE" = some (some (.int (5) t_SCORE)))
    (v_NEXT : PySem.W.nsIn K mainGlobals "NEXT" = some (some (.int (6) t_NEXT)))
    (v_NEED : PySem.W.nsIn K mainGlobals "NEED" = some (some (.int (7) t_NEED)))
    (v_NO_SUCH_POINT : PySem.W.nsIn K mainGlobals "NO_SUCH_POINT" = some (some (.int (-2) t_NO_SUCH_POINT)))
    (v_TOO_MANY_POINTS : PySem.W.nsIn K mainGlobals "TOO_MANY_POINTS" = some (some (.int (-12) t_TOO_MANY_POINTS)))
    (v_MATCH_IS_OVER : PySem.W.nsIn K mainGlobals "MATCH_IS_OVER" = some (some (.int (-17) t_MATCH_IS_OVER)))
    (v_OUT_OF_RANGE : PySem.W.nsIn K mainGlobals "OUT_OF_RANGE" = some (some (.int (-22) t_OUT_OF_RANGE)))
    (v_CANNOT_BE : PySem.W.nsIn K mainGlobals "CANNOT_BE" = some (some (.int (-33) t_CANNOT_BE)))
    (v_NO_RULES : PySem.W.nsIn K mainGlobals "NO_RULES" = some (some (.int (-61) t_NO_RULES)))
    (v_TOLD_TOO_MUCH : PySem.W.nsIn K mainGlobals "TOLD_TOO_MUCH" = some (some (.int (-71) t_TOLD_TOO_MUCH)))
    (v_MOST_SETS_TO_WIN : PySem.W.nsIn K mainGlobals "MOST_SETS_TO_WIN" = some (some (.int (3) t_MOST_SETS_TO_WIN)))
    (v_LEAST_GAMES : PySem.W.nsIn K mainGlobals "LEAST_GAMES" = some (some (.int (2) t_LEAST_GAMES)))
    (v_MOST_GAMES : PySem.W.nsIn K mainGlobals "MOST_GAMES" = some (some (.int (8) t_MOST_GAMES)))
    (v_MOST_POINTS : PySem.W.nsIn K mainGlobals "MOST_POINTS" = some (some (.int (1000) t_MOST_POINTS)))
    (v_MOST_SETS_TOLD : PySem.W.nsIn K mainGlobals "MOST_SETS_TOLD" = some (some (.int (5) t_MOST_SETS_TOLD)))
    (v_MOST_TOLD : PySem.W.nsIn K mainGlobals "MOST_TOLD" = some (some (.int (60) t_MOST_TOLD)))
    (v_CHANGED_ENDS : PySem.W.nsIn K mainGlobals "CHANGED_ENDS" = some (some (.int (2) t_CHANGED_ENDS)))
    (v_CALL_LENGTHS : PySem.W.nsIn K mainGlobals "CALL_LENGTHS" = some (some (.ref p_CALL_LENGTHS)))
    (l_CALL_LENGTHS : K.lookup p_CALL_LENGTHS = some ⟨c_CALL_LENGTHS, o_CALL_LENGTHS, .dict e_CALL_LENGTHS n_CALL_LENGTHS, s_CALL_LENGTHS⟩)
    (h_CALL_LENGTHS : c_CALL_LENGTHS = .type "dict" ∧ o_CALL_LENGTHS = none ∧ s_CALL_LENGTHS = #[] ∧ Pr.esC e_CALL_LENGTHS.toList [(0, 5), (2, 2), (3, 1), (4, 2), (5, 1), (6, 1), (7, 2), (8, 1)] = true)
    (v_POINT_TEXTS : PySem.W.nsIn K mainGlobals "POINT_TEXTS" = some (some (.ref p_POINT_TEXTS)))
    (l_POINT_TEXTS : K.lookup p_POINT_TEXTS = some ⟨c_POINT_TEXTS, o_POINT_TEXTS, .seq e_POINT_TEXTS n_POINT_TEXTS, s_POINT_TEXTS⟩)
    (h_POINT_TEXTS : c_POINT_TEXTS = .type "tuple" ∧ e_POINT_TEXTS.size ≤ 100 ∧ e_POINT_TEXTS.toList.map absV = (["0", "15", "30", "40", "A"] : List Str).map fun x => some (.str x))
    (z_abs : PySem.W.nsIn K mainGlobals "abs" = some none)
    (z_len : PySem.W.nsIn K mainGlobals "len" = some none)
    (z_list : PySem.W.nsIn K mainGlobals "list" = some none)
    (z_max : PySem.W.nsIn K mainGlobals "max" = some none)
    (z_min : PySem.W.nsIn K mainGlobals "min" = some none)
    (z_ord : PySem.W.nsIn K mainGlobals "ord" = some none)
    (z_range : PySem.W.nsIn K mainGlobals "range" = some none)
    (z_sum : PySem.W.nsIn K mainGlobals "sum" = some none)
    : ∃ T : Tx K mg, T.f_answers = f40 ∧ T.d_answers = PySem.W.fnOf "answers" "answers" (defArgs s_answers) (defBody s_answers) (defScope s_answers) .none kV40 dc40 pm40 an40 cd40 ct40 := by
  have F1 := fun_mk (st := s_Rules_init) l1 cc1 k1
  have b1 := F1.binds (ps := ["self", "sets", "games", "long", "short"]) fun a b c d e f us hl => len5 (P := fun us => bindArgs (PySem.W.fnOf _ _ _ _ _ .none a b c d e f) ⟨us, []⟩ = pure (List.zip _ us)) (fun _ _ _ _ _ => rfl) hl
  have F2 := fun_mk (st := s_Score_init) l2 cc2 k2
  have b2 := F2.binds (ps := ["self", "done", "won", "games", "points"]) fun a b c d e f us hl => len5 (P := fun us => bindArgs (PySem.W.fnOf _ _ _ _ _ .none a b c d e f) ⟨us, []⟩ = pure (List.zip _ us)) (fun _ _ _ _ _ => rfl) hl
  have F3 := fun_mk (st := s_first_score) l3 cc3 k3
  have b3 := F3.binds (ps := []) fun a b c d e f us hl => len0 (P := fun us => bindArgs (PySem.W.fnOf _ _ _ _ _ .none a b c d e f) ⟨us, []⟩ = pure (List.zip _ us)) (fun (_ : Unit) => rfl) hl
  have F4 := fun_mk (st := s_match_over) l4 cc4 k4
  have b4 := F4.binds (ps := ["rules", "score"]) fun a b c d e f us hl => len2 (P := fun us => bindArgs (PySem.W.fnOf _ _ _ _ _ .none a b c d e f) ⟨us, []⟩ = pure (List.zip _ us)) (fun _ _ => rfl) hl
  have F5 := fun_mk (st := s_goes_on_without_tie_break) l5 cc5 k5
  have b5 := F5.binds (ps := ["rules", "score"]) fun a b c d e f us hl => len2 (P := fun us => bindArgs (PySem.W.fnOf _ _ _ _ _ .none a b c d e f) ⟨us, []⟩ = pure (List.zip _ us)) (fun _ _ => rfl) hl
  have F6 := fun_mk (st := s_in_tie_break) l6 cc6 k6
  have b6 := F6.binds (ps := ["rules", "score"]) fun a b c d e f us hl => len2 (P := fun us => bindArgs (PySem.W.fnOf _ _ _ _ _ .none a b c d e f) ⟨us, []⟩ = pure (List.zip _ us)) (fun _ _ => rfl) hl
  have F7 := fun_mk (st := s_one_more) l7 cc7 k7
  have b7 := F7.binds (ps := ["pair", "who"]) fun a b c d e f us hl => len2 (P := fun us => bindArgs (PySem.W.fnOf _ _ _ _ _ .none a b c d e f) ⟨us, []⟩ = pure (List.zip _ us)) (fun _ _ => rfl) hl
  have F8 := fun_mk (st := s_has_won) l8 cc8 k8
  have b8 := F8.binds (ps := ["pair", "who", "least", "lead"]) fun a b c d e f us hl => len4 (P := fun us => bindArgs (PySem.W.fnOf _ _ _ _ _ .none a b c d e f) ⟨us, []⟩ = pure (List.zip _ us)) (fun _ _ _ _ => rfl) hl
  have F9 := fun_mk (st := s_after_point) l9 cc9 k9
  have b9 := F9.binds (ps := ["rules", "score", "who"]) fun a b c d e f us hl => len3 (P := fun us => bindArgs (PySem.W.fnOf _ _ _ _ _ .none a b c d e f) ⟨us, []⟩ = pure (List.zip _ us)) (fun _ _ _ => rfl) hl
  have F10 := fun_mk (st := s_after_game) l10 cc10 k10
  have b10 := F10.binds (ps := ["rules", "score", "who"]) fun a b c d e f us hl => len3 (P := fun us => bindArgs (PySem.W.fnOf _ _ _ _ _ .none a b c d e f) ⟨us, []⟩ = pure (List.zip _ us)) (fun _ _ _ => rfl) hl
  have F11 := fun_mk (st := s_after_set) l11 cc11 k11
  have b11 := F11.binds (ps := ["score", "games", "loser_points"]) fun a b c d e f us hl => len3 (P := fun us => bindArgs (PySem.W.fnOf _ _ _ _ _ .none a b c d e f) ⟨us, []⟩ = pure (List.zip _ us)) (fun _ _ _ => rfl) hl
  have F12 := fun_mk (st := s_score_text) l12 cc12 k12
  have b12 := F12.binds (ps := ["rules", "score"]) fun a b c d e f us hl => len2 (P := fun us => bindArgs (PySem.W.fnOf _ _ _ _ _ .none a b c d e f) ⟨us, []⟩ = pure (List.zip _ us)) (fun _ _ => rfl) hl
  have F13 := fun_mk (st := s_set_text) l13 cc13 k13
  have b13 := F13.binds (ps := ["ended"]) fun a b c d e f us hl => len1 (P := fun us => bindArgs (PySem.W.fnOf _ _ _ _ _ .none a b c d e f) ⟨us, []⟩ = pure (List.zip _ us)) (fun _ => rfl) hl
  have F14 := fun_mk (st := s_pair_text) l14 cc14 k14
  have b14 := F14.binds (ps := ["pair"]) fun a b c d e f us hl => len1 (P := fun us => bindArgs (PySem.W.fnOf _ _ _ _ _ .none a b c d e f) ⟨us, []⟩ = pure (List.zip _ us)) (fun _ => rfl) hl
  have F15 := fun_mk (st := s_points_text) l15 cc15 k15
  have b15 := F15.binds (ps := ["rules", "score"]) fun a b c d e f us hl => len2 (P := fun us => bindArgs (PySem.W.fnOf _ _ _ _ _ .none a b c d e f) ⟨us, []⟩ = pure (List.zip _ us)) (fun _ _ => rfl) hl
  have F16 := fun_mk (st := s_won_by_tie_break) l16 cc16 k16
  have b16 := F16.binds (ps := ["ended"]) fun a b c d e f us hl => len1 (P := fun us => bindArgs (PySem.W.fnOf _ _ _ _ _ .none a b c d e f) ⟨us, []⟩ = pure (List.zip _ us)) (fun _ => rfl) hl
  have F17 := fun_mk (st := s_server) l17 cc17 k17
  have b17 := F17.binds (ps := ["rules", "score"]) fun a b c d e f us hl => len2 (P := fun us => bindArgs (PySem.W.fnOf _ _ _ _ _ .none a b c d e f) ⟨us, []⟩ = pure (List.zip _ us)) (fun _ _ => rfl) hl
  have F18 := fun_mk (st := s_ends_changed) l18 cc18 k18
  have b18 := F18.binds (ps := ["rules", "score"]) fun a b c d e f us hl => len2 (P := fun us => bindArgs (PySem.W.fnOf _ _ _ _ _ .none a b c d e f) ⟨us, []⟩ = pure (List.zip _ us)) (fun _ _ => rfl) hl
  have F19 := fun_mk (st := s_changes_behind_games) l19 cc19 k19
  have b19 := F19.binds (ps := ["played"]) fun a b c d e f us hl => len1 (P := fun us => bindArgs (PySem.W.fnOf _ _ _ _ _ .none a b c d e f) ⟨us, []⟩ = pure (List.zip _ us)) (fun _ => rfl) hl
  have F20 := fun_mk (st := s_changes_within_tie_break) l20 cc20 k20
  have b20 := F20.binds (ps := ["loser_points"]) fun a b c d e f us hl => len1 (P := fun us => bindArgs (PySem.W.fnOf _ _ _ _ _ .none a b c d e f) ⟨us, []⟩ = pure (List.zip _ us)) (fun _ => rfl) hl
  have F21 := fun_mk (st := s_points_needed) l21 cc21 k21
  have b21 := F21.binds (ps := ["rules", "score", "who"]) fun a b c d e f us hl => len3 (P := fun us => bindArgs (PySem.W.fnOf _ _ _ _ _ .none a b c d e f) ⟨us, []⟩ = pure (List.zip _ us)) (fun _ _ _ => rfl) hl
  have F22 := fun_mk (st := s_told_score) l22 cc22 k22
  have b22 := F22.binds (ps := ["rules", "done", "now"]) fun a b c d e f us hl => len3 (P := fun us => bindArgs (PySem.W.fnOf _ _ _ _ _ .none a b c d e f) ⟨us, []⟩ = pure (List.zip _ us)) (fun _ _ _ => rfl) hl
  have F23 := fun_mk (st := s_score_of_sets) l23 cc23 k23
  have b23 := F23.binds (ps := ["rules", "done"]) fun a b c d e f us hl => len2 (P := fun us => bindArgs (PySem.W.fnOf _ _ _ _ _ .none a b c d e f) ⟨us, []⟩ = pure (List.zip _ us)) (fun _ _ => rfl) hl
  have F24 := fun_mk (st := s_set_can_end) l24 cc24 k24
  have b24 := F24.binds (ps := ["rules", "score", "games", "loser_points"]) fun a b c d e f us hl => len4 (P := fun us => bindArgs (PySem.W.fnOf _ _ _ _ _ .none a b c d e f) ⟨us, []⟩ = pure (List.zip _ us)) (fun _ _ _ _ => rfl) hl
  have F25 := fun_mk (st := s_games_can_be) l25 cc25 k25
  have b25 := F25.binds (ps := ["rules", "score", "first", "other"]) fun a b c d e f us hl => len4 (P := fun us => bindArgs (PySem.W.fnOf _ _ _ _ _ .none a b c d e f) ⟨us, []⟩ = pure (List.zip _ us)) (fun _ _ _ _ => rfl) hl
  have F26 := fun_mk (st := s_points_can_be) l26 cc26 k26
  have b26 := F26.binds (ps := ["rules", "score"]) fun a b c d e f us hl => len2 (P := fun us => bindArgs (PySem.W.fnOf _ _ _ _ _ .none a b c d e f) ⟨us, []⟩ = pure (List.zip _ us)) (fun _ _ => rfl) hl
  have F27 := fun_mk (st := s_Desk_init) l27 cc27 k27
  have b27 := F27.binds (ps := ["self"]) fun a b c d e f us hl => len1 (P := fun us => bindArgs (PySem.W.fnOf _ _ _ _ _ .none a b c d e f) ⟨us, []⟩ = pure (List.zip _ us)) (fun _ => rfl) hl
  have F28 := fun_mk (st := s_Desk_begin) l28 cc28 k28
  have b28 := F28.binds (ps := ["self", "sets", "games", "long", "short"]) fun a b c d e f us hl => len5 (P := fun us => bindArgs (PySem.W.fnOf _ _ _ _ _ .none a b c d e f) ⟨us, []⟩ = pure (List.zip _ us)) (fun _ _ _ _ _ => rfl) hl
  have F29 := fun_mk (st := s_Desk_go_on_from) l29 cc29 k29
  have b29 := F29.binds (ps := ["self", "score"]) fun a b c d e f us hl => len2 (P := fun us => bindArgs (PySem.W.fnOf _ _ _ _ _ .none a b c d e f) ⟨us, []⟩ = pure (List.zip _ us)) (fun _ _ => rfl) hl
  have F30 := fun_mk (st := s_Desk_told) l30 cc30 k30
  have b30 := F30.binds (ps := ["self", "done", "now"]) fun a b c d e f us hl => len3 (P := fun us => bindArgs (PySem.W.fnOf _ _ _ _ _ .none a b c d e f) ⟨us, []⟩ = pure (List.zip _ us)) (fun _ _ _ => rfl) hl
  have F31 := fun_mk (st := s_Desk_point) l31 cc31 k31
  have b31 := F31.binds (ps := ["self", "who"]) fun a b c d e f us hl => len2 (P := fun us => bindArgs (PySem.W.fnOf _ _ _ _ _ .none a b c d e f) ⟨us, []⟩ = pure (List.zip _ us)) (fun _ _ => rfl) hl
  have F32 := fun_mk (st := s_Desk_back) l32 cc32 k32
  have b32 := F32.binds (ps := ["self"]) fun a b c d e f us hl => len1 (P := fun us => bindArgs (PySem.W.fnOf _ _ _ _ _ .none a b c d e f) ⟨us, []⟩ = pure (List.zip _ us)) (fun _ => rfl) hl
  have F33 := fun_mk (st := s_Desk_right) l33 cc33 k33
  have b33 := F33.binds (ps := ["self", "k"]) fun a b c d e f us hl => len2 (P := fun us => bindArgs (PySem.W.fnOf _ _ _ _ _ .none a b c d e f) ⟨us, []⟩ = pure (List.zip _ us)) (fun _ _ => rfl) hl
  have F34 := fun_mk (st := s_Desk_score) l34 cc34 k34
  have b34 := F34.binds (ps := ["self"]) fun a b c d e f us hl => len1 (P := fun us => bindArgs (PySem.W.fnOf _ _ _ _ _ .none a b c d e f) ⟨us, []⟩ = pure (List.zip _ us)) (fun _ => rfl) hl
  have F35 := fun_mk (st := s_Desk_serving) l35 cc35 k35
  have b35 := F35.binds (ps := ["self"]) fun a b c d e f us hl => len1 (P := fun us => bindArgs (PySem.W.fnOf _ _ _ _ _ .none a b c d e f) ⟨us, []⟩ = pure (List.zip _ us)) (fun _ => rfl) hl
  have F36 := fun_mk (st := s_Desk_need) l36 cc36 k36
  have b36 := F36.binds (ps := ["self", "who"]) fun a b c d e f us hl => len2 (P := fun us => bindArgs (PySem.W.fnOf _ _ _ _ _ .none a b c d e f) ⟨us, []⟩ = pure (List.zip _ us)) (fun _ _ => rfl) hl
  have F37 := fun_mk (st := s_Desk_counts) l37 cc37 k37
  have b37 := F37.binds (ps := ["self"]) fun a b c d e f us hl => len1 (P := fun us => bindArgs (PySem.W.fnOf _ _ _ _ _ .none a b c d e f) ⟨us, []⟩ = pure (List.zip _ us)) (fun _ => rfl) hl
  have F38 := fun_mk (st := s_call_length) l38 cc38 k38
  have b38 := F38.binds (ps := ["calls", "place"]) fun a b c d e f us hl => len2 (P := fun us => bindArgs (PySem.W.fnOf _ _ _ _ _ .none a b c d e f) ⟨us, []⟩ = pure (List.zip _ us)) (fun _ _ => rfl) hl
  have F39 := fun_mk (st := s_answer_to) l39 cc39 k39
  have b39 := F39.binds (ps := ["desk", "call"]) fun a b c d e f us hl => len2 (P := fun us => bindArgs (PySem.W.fnOf _ _ _ _ _ .none a b c d e f) ⟨us, []⟩ = pure (List.zip _ us)) (fun _ _ => rfl) hl
  have F40 := fun_mk (st := s_answers) l40 cc40 k40
  have b40 := F40.binds (ps := ["calls"]) fun a b c d e f us hl => len1 (P := fun us => bindArgs (PySem.W.fnOf _ _ _ _ _ .none a b c d e f) ⟨us, []⟩ = pure (List.zip _ us)) (fun _ => rfl) hl
  exact ⟨{ f_Rules_init := f1, d_Rules_init := _, F_Rules_init := F1, b_Rules_init := b1, f_Score_init := f2, d_Score_init := _, F_Score_init := F2, b_Score_init := b2, f_first_score := f3, d_first_score := _, F_first_score := F3, b_first_score := b3, g_first_score := PySem.W.mg_of X G a3, f_match_over := f4, d_match_over := _, F_match_over := F4, b_match_over := b4, g_match_over := PySem.W.mg_of X G a4, f_goes_on_without_tie_break := f5, d_goes_on_without_tie_break := _, F_goes_on_without_tie_break := F5, b_goes_on_without_tie_break := b5, g_goes_on_without_tie_break := PySem.W.mg_of X G a5, f_in_tie_break := f6, d_in_tie_break := _, F_in_tie_break := F6, b_in_tie_break := b6, g_in_tie_break := PySem.W.mg_of X G a6, f_one_more := f7, d_one_more := _, F_one_more := F7, b_one_more := b7, g_one_more := PySem.W.mg_of X G a7, f_has_won := f8, d_has_won := _, F_has_won := F8, b_has_won := b8, g_has_won := PySem.W.mg_of X G a8, f_after_point := f9, d_after_point := _, F_after_point := F9, b_after_point := b9, g_after_point := PySem.W.mg_of X G a9, f_after_game := f10, d_after_game := _, F_after_game := F10, b_after_game := b10, g_after_game := PySem.W.mg_of X G a10, f_after_set := f11, d_after_set := _, F_after_set := F11, b_after_set := b11, g_after_set := PySem.W.mg_of X G a11, f_score_text := f12, d_score_text := _, F_score_text := F12, b_score_text := b12, g_score_text := PySem.W.mg_of X G a12, f_set_text := f13, d_set_text := _, F_set_text := F13, b_set_text := b13, g_set_text := PySem.W.mg_of X G a13, f_pair_text := f14, d_pair_text := _, F_pair_text := F14, b_pair_text := b14, g_pair_text := PySem.W.mg_of X G a14, f_points_text := f15, d_points_text := _, F_points_text := F15, b_points_text := b15, g_points_text := PySem.W.mg_of X G a15, f_won_by_tie_break := f16, d_won_by_tie_break := _, F_won_by_tie_break := F16, b_won_by_tie_break := b16, g_won_by_tie_break := PySem.W.mg_of X G a16, f_server := f17, d_server := _, F_server := F17, b_server := b17, g_server := PySem.W.mg_of X G a17, f_ends_changed := f18, d_ends_changed := _, F_ends_changed := F18, b_ends_changed := b18, g_ends_changed := PySem.W.mg_of X G a18, f_changes_behind_games := f19, d_changes_behind_games := _, F_changes_behind_games := F19, b_changes_behind_games := b19, g_changes_behind_games := PySem.W.mg_of X G a19, f_changes_within_tie_break := f20, d_changes_within_tie_break := _, F_changes_within_tie_break := F20, b_changes_within_tie_break := b20, g_changes_within_tie_break := PySem.W.mg_of X G a20, f_points_needed := f21, d_points_needed := _, F_points_needed := F21, b_points_needed := b21, g_points_needed := PySem.W.mg_of X G a21, f_told_score := f22, d_told_score := _, F_told_score := F22, b_told_score := b22, g_told_score := PySem.W.mg_of X G a22, f_score_of_sets := f23, d_score_of_sets := _, F_score_of_sets := F23, b_score_of_sets := b23, g_score_of_sets := PySem.W.mg_of X G a23, f_set_can_end := f24, d_set_can_end := _, F_set_can_end := F24, b_set_can_end := b24, g_set_can_end := PySem.W.mg_of X G a24, f_games_can_be := f25, d_games_can_be := _, F_games_can_be := F25, b_games_can_be := b25, g_games_can_be := PySem.W.mg_of X G a25, f_points_can_be := f26, d_points_can_be := _, F_points_can_be := F26, b_points_can_be := b26, g_points_can_be := PySem.W.mg_of X G a26, f_Desk_init := f27, d_Desk_init := _, F_Desk_init := F27, b_Desk_init := b27, f_Desk_begin := f28, d_Desk_begin := _, F_Desk_begin := F28, b_Desk_begin := b28, f_Desk_go_on_from := f29, d_Desk_go_on_from := _, F_Desk_go_on_from := F29, b_Desk_go_on_from := b29, f_Desk_told := f30, d_Desk_told := _, F_Desk_told := F30, b_Desk_told := b30, f_Desk_point := f31, d_Desk_point := _, F_Desk_point := F31, b_Desk_point := b31, f_Desk_back := f32, d_Desk_back := _, F_Desk_back := F32, b_Desk_back := b32, f_Desk_right := f33, d_Desk_right := _, F_Desk_right := F33, b_Desk_right := b33, f_Desk_score := f34, d_Desk_score := _, F_Desk_score := F34, b_Desk_score := b34, f_Desk_serving := f35, d_Desk_serving := _, F_Desk_serving := F35, b_Desk_serving := b35, f_Desk_need := f36, d_Desk_need := _, F_Desk_need := F36, b_Desk_need := b36, f_Desk_counts := f37, d_Desk_counts := _, F_Desk_counts := F37, b_Desk_counts := b37, f_call_length := f38, d_call_length := _, F_call_length := F38, b_call_length := b38, g_call_length := PySem.W.mg_of X G a38, f_answer_to := f39, d_answer_to := _, F_answer_to := F39, b_answer_to := b39, g_answer_to := PySem.W.mg_of X G a39, f_answers := f40, d_answers := _, F_answers := F40, b_answers := b40, g_answers := PySem.W.mg_of X G a40, c_Rules := C_Rules, k_Rules := ⟨pg_Rules, hd_Rules, po_Rules, sa_Rules⟩, g_Rules := PySem.W.mg_of X G a_Rules, mk_Rules := ⟨mk_Rules, a1, i1, kc_Rules⟩, n_Rules_sets := n_Rules_sets, n_Rules_games := n_Rules_games, n_Rules_long := n_Rules_long, n_Rules_short := n_Rules_short, c_Score := C_Score, k_Score := ⟨pg_Score, hd_Score, po_Score, sa_Score⟩, g_Score := PySem.W.mg_of X G a_Score, mk_Score := ⟨mk_Score, a2, i2, kc_Score⟩, n_Score_done := n_Score_done, n_Score_won := n_Score_won, n_Score_games := n_Score_games, n_Score_points := n_Score_points, c_Desk := C_Desk, k_Desk := ⟨pg_Desk, hd_Desk, po_Desk, sa_Desk⟩, g_Desk := PySem.W.mg_of X G a_Desk, mk_Desk := ⟨mk_Desk, a27, i27, kc_Desk⟩, n_Desk_rules := n_Desk_rules, n_Desk_winners := n_Desk_winners, n_Desk_scores := n_Desk_scores, m_Desk_begin := ⟨a28, i28, k28⟩, m_Desk_go_on_from := ⟨a29, i29, k29⟩, m_Desk_told := ⟨a30, i30, k30⟩, m_Desk_point := ⟨a31, i31, k31⟩, m_Desk_back := ⟨a32, i32, k32⟩, m_Desk_right := ⟨a33, i33, k33⟩, m_Desk_score := ⟨a34, i34, k34⟩, m_Desk_serving := ⟨a35, i35, k35⟩, m_Desk_need := ⟨a36, i36, k36⟩, m_Desk_counts := ⟨a37, i37, k37⟩, u_GAME_POINTS := _, v_GAME_POINTS := PySem.W.mg_of X G v_GAME_POINTS, r_GAME_POINTS := ⟨_, rfl⟩, u_TIE_BREAK_POINTS := _, v_TIE_BREAK_POINTS := PySem.W.mg_of X G v_TIE_BREAK_POINTS, r_TIE_BREAK_POINTS := ⟨_, rfl⟩, u_LEAD := _, v_LEAD := PySem.W.mg_of X G v_LEAD, r_LEAD := ⟨_, rfl⟩, u_POINTS_TO_AN_ENDS_CHANGE := _, v_POINTS_TO_AN_ENDS_CHANGE := PySem.W.mg_of X G v_POINTS_TO_AN_ENDS_CHANGE, r_POINTS_TO_AN_ENDS_CHANGE := ⟨_, rfl⟩, u_BEGIN := _, v_BEGIN := PySem.W.mg_of X G v_BEGIN, r_BEGIN := ⟨_, rfl⟩, u_TOLD := _, v_TOLD := PySem.W.mg_of X G v_TOLD, r_TOLD := ⟨_, rfl⟩, u_POINT := _, v_POINT := PySem.W.mg_of X G v_POINT, r_POINT := ⟨_, rfl⟩, u_BACK := _, v_BACK := PySem.W.mg_of X G v_BACK, r_BACK := ⟨_, rfl⟩, u_RIGHT := _, v_RIGHT := PySem.W.mg_of X G v_RIGHT, r_RIGHT := ⟨_, rfl⟩, u_SCORE := _, v_SCORE := PySem.W.mg_of X G v_SCORE, r_SCORE := ⟨_, rfl⟩, u_NEXT := _, v_NEXT := PySem.W.mg_of X G v_NEXT, r_NEXT := ⟨_, rfl⟩, u_NEED := _, v_NEED := PySem.W.mg_of X G v_NEED, r_NEED := ⟨_, rfl⟩, u_NO_SUCH_POINT := _, v_NO_SUCH_POINT := PySem.W.mg_of X G v_NO_SUCH_POINT, r_NO_SUCH_POINT := ⟨_, rfl⟩, u_TOO_MANY_POINTS := _, v_TOO_MANY_POINTS := PySem.W.mg_of X G v_TOO_MANY_POINTS, r_TOO_MANY_POINTS := ⟨_, rfl⟩, u_MATCH_IS_OVER := _, v_MATCH_IS_OVER := PySem.W.mg_of X G v_MATCH_IS_OVER, r_MATCH_IS_OVER := ⟨_, rfl⟩, u_OUT_OF_RANGE := _, v_OUT_OF_RANGE := PySem.W.mg_of X G v_OUT_OF_RANGE, r_OUT_OF_RANGE := ⟨_, rfl⟩, u_CANNOT_BE := _, v_CANNOT_BE := PySem.W.mg_of X G v_CANNOT_BE, r_CANNOT_BE := ⟨_, rfl⟩, u_NO_RULES := _, v_NO_RULES := PySem.W.mg_of X G v_NO_RULES, r_NO_RULES := ⟨_, rfl⟩, u_TOLD_TOO_MUCH := _, v_TOLD_TOO_MUCH := PySem.W.mg_of X G v_TOLD_TOO_MUCH, r_TOLD_TOO_MUCH := ⟨_, rfl⟩, u_MOST_SETS_TO_WIN := _, v_MOST_SETS_TO_WIN := PySem.W.mg_of X G v_MOST_SETS_TO_WIN, r_MOST_SETS_TO_WIN := ⟨_, rfl⟩, u_LEAST_GAMES := _, v_LEAST_GAMES := PySem.W.mg_of X G v_LEAST_GAMES, r_LEAST_GAMES := ⟨_, rfl⟩, u_MOST_GAMES := _, v_MOST_GAMES := PySem.W.mg_of X G v_MOST_GAMES, r_MOST_GAMES := ⟨_, rfl⟩, u_MOST_POINTS := _, v_MOST_POINTS := PySem.W.mg_of X G v_MOST_POINTS, r_MOST_POINTS := ⟨_, rfl⟩, u_MOST_SETS_TOLD := _, v_MOST_SETS_TOLD := PySem.W.mg_of X G v_MOST_SETS_TOLD, r_MOST_SETS_TOLD := ⟨_, rfl⟩, u_MOST_TOLD := _, v_MOST_TOLD := PySem.W.mg_of X G v_MOST_TOLD, r_MOST_TOLD := ⟨_, rfl⟩, u_CHANGED_ENDS := _, v_CHANGED_ENDS := PySem.W.mg_of X G v_CHANGED_ENDS, r_CHANGED_ENDS := ⟨_, rfl⟩, p_CALL_LENGTHS := p_CALL_LENGTHS, v_CALL_LENGTHS := PySem.W.mg_of X G v_CALL_LENGTHS, D_CALL_LENGTHS := ⟨_, _, by rw [l_CALL_LENGTHS, h_CALL_LENGTHS.1, h_CALL_LENGTHS.2.1, h_CALL_LENGTHS.2.2.1], h_CALL_LENGTHS.2.2.2⟩, p_POINT_TEXTS := p_POINT_TEXTS, v_POINT_TEXTS := PySem.W.mg_of X G v_POINT_TEXTS, D_POINT_TEXTS := Pr.tupS_of l_POINT_TEXTS h_POINT_TEXTS.1 h_POINT_TEXTS.2.1 h_POINT_TEXTS.2.2, z_abs := PySem.W.mg_none_of X G z_abs, z_len := PySem.W.mg_none_of X G z_len, z_list := PySem.W.mg_none_of X G z_list, z_max := PySem.W.mg_none_of X G z_max, z_min := PySem.W.mg_none_of X G z_min, z_ord := PySem.W.mg_none_of X G z_ord, z_range := PySem.W.mg_none_of X G z_range, z_sum := PySem.W.mg_none_of X G z_sum }, rfl, rfl⟩
theorem fin_mk {P : Program} {w : World} {K : PySem.W.Frag} {mg : Str → Option Value} {fa f : Addr} {kV dc pm cd ct : Value} {an : Option Addr} (hfa : mg "answers" = some (.ref fa))
    (tx : ∃ T : Tx K mg, T.f_answers = f ∧ T.d_answers = PySem.W.fnOf "answers" "answers" (defArgs s_answers) (defBody s_answers) (defScope s_answers) .none kV dc pm an cd ct) :
    ∃ fd : FuncData, (∀ (s : Shared) (us : List Value), us.length = (["calls"] : List Str).length → BindsTo s fd ⟨us, []⟩ ((["calls"] : List Str).zip us)) ∧ ∀ base : Heap, K.In base → base.Ns mainGlobals mg → FnOk P w K mg base CX0 9 fa fd ["calls"] (sp_answers K) := by
  obtain ⟨T, e1, e2⟩ := tx
  have e := hfa.symm.trans T.g_answers
  have e3 : fa = T.f_answers := by
    cases e
    rfl
  subst e3
  refine ⟨T.d_answers, ?_, fun base _ _ => ok_answers T⟩
  rw [e2]
  exact fun s us hu => match us, hu with | [_], _ => .of_eq rfl
end Pt
/-- the name under which the head would lay a twin of the written part of the heap: no step asks for that twin, and it is large; so the name is taken -/
def PySem.W.Fast.tw10470474936338483811 : Unit := ()
open PySem PySem.W PyProof.Rows
set_option maxRecDepth 100000 in
set_option maxHeartbeats 0 in
theorem PySem.Challenge.cw_pointdesk_s01_answers_holds : PySem.Challenge.rw_pointdesk_s01_answers.Holds := by
  w_on; k_headS; (case hw => exact ⟨[.list [.int 3]], by decide +kernel, by decide +kernel⟩)
  k_fillS
  refine L2.walk_specK (r := PySem.Challenge.rw_pointdesk_s01_answers) (k := 9) (CX := L2.CX0) (ps := ["calls"]) (sp := Pt.sp_answers) (by decide +kernel) rfl rfl ⟨rfl, by decide, by decide⟩ (fun w h Y => PySem.W.kIn_of Y) ?F ?S (fun _ _ _ _ z => z)
  case F =>
    intro w mg fa h Y KX G hmg
    refine' Pt.fin_mk hmg (Pt.tx_mk KX G ?a_Rules ?a_Score ?a_Desk ?a1 ?i1 ?l1 ?cc1 ?k1 ?a2 ?i2 ?l2 ?cc2 ?k2 ?a3 ?l3 ?cc3 ?k3 ?a4 ?l4 ?cc4 ?k4 ?a5 ?l5 ?cc5 ?k5 ?a6 ?l6 ?cc6 ?k6 ?a7 ?l7 ?cc7 ?k7 ?a8 ?l8 ?cc8 ?k8 ?a9 ?l9 ?cc9 ?k9 ?a10 ?l10 ?cc10 ?k10 ?a11 ?l11 ?cc11 ?k11 ?a12 ?l12 ?cc12 ?k12 ?a13 ?l13 ?cc13 ?k13 ?a14 ?l14 ?cc14 ?k14 ?a15 ?l15 ?cc15 ?k15 ?a16 ?l16 ?cc16 ?k16 ?a17 ?l17 ?cc17 ?k17 ?a18 ?l18 ?cc18 ?k18 ?a19 ?l19 ?cc19 ?k19 ?a20 ?l20 ?cc20 ?k20 ?a21 ?l21 ?cc21 ?k21 ?a22 ?l22 ?cc22 ?k22 ?a23 ?l23 ?cc23 ?k23 ?a24 ?l24 ?cc24 ?k24 ?a25 ?l25 ?cc25 ?k25 ?a26 ?l26 ?cc26 ?k26 ?a27 ?i27 ?l27 ?cc27 ?k27 ?a28 ?i28 ?l28 ?cc28 ?k28 ?a29 ?i29 ?l29 ?cc29 ?k29 ?a30 ?i30 ?l30 ?cc30 ?k30 ?a31 ?i31 ?l31 ?cc31 ?k31 ?a32 ?i32 ?l32 ?cc32 ?k32 ?a33 ?i33 ?l33 ?cc33 ?k33 ?a34 ?i34 ?l34 ?cc34 ?k34 ?a35 ?i35 ?l35 ?cc35 ?k35 ?a36 ?i36 ?l36 ?cc36 ?k36 ?a37 ?i37 ?l37 ?cc37 ?k37 ?a38 ?l38 ?cc38 ?k38 ?a39 ?l39 ?cc39 ?k39 ?a40 ?l40 ?cc40 ?k40 ?pg_Rules ?hd_Rules ?po_Rules ?sa_Rules ?mk_Rules ?kc_Rules ?n_Rules_sets ?n_Rules_games ?n_Rules_long ?n_Rules_short ?pg_Score ?hd_Score ?po_Score ?sa_Score ?mk_Score ?kc_Score ?n_Score_done ?n_Score_won ?n_Score_games ?n_Score_points ?pg_Desk ?hd_Desk ?po_Desk ?sa_Desk ?mk_Desk ?kc_Desk ?n_Desk_rules ?n_Desk_winners ?n_Desk_scores ?v_GAME_POINTS ?v_TIE_BREAK_POINTS ?v_LEAD ?v_POINTS_TO_AN_ENDS_CHANGE ?v_BEGIN ?v_TOLD ?v_POINT ?v_BACK ?v_RIGHT ?v_SCORE ?v_NEXT ?v_NEED ?v_NO_SUCH_POINT ?v_TOO_MANY_POINTS ?v_MATCH_IS_OVER ?v_OUT_OF_RANGE ?v_CANNOT_BE ?v_NO_RULES ?v_TOLD_TOO_MUCH ?v_MOST_SETS_TO_WIN ?v_LEAST_GAMES ?v_MOST_GAMES ?v_MOST_POINTS ?v_MOST_SETS_TOLD ?v_MOST_TOLD ?v_CHANGED_ENDS ?v_CALL_LENGTHS ?l_CALL_LENGTHS ?h_CALL_LENGTHS ?v_POINT_TEXTS ?l_POINT_TEXTS ?h_POINT_TEXTS ?z_abs ?z_len ?z_list ?z_max ?z_min ?z_ord ?z_range ?z_sum)
    (case a_Rules => k_is)
    (case a_Score => k_is)
    (case a_Desk => k_is)
    (case a1 => k_is)
    (case i1 => k_is)
    (case l1 => k_is)
    (case cc1 => k_is)
    (case k1 => k_is)
    (case a2 => k_is)
    (case i2 => k_is)
    (case l2 => k_is)
    (case cc2 => k_is)
    (case k2 => k_is)
    (case a3 => k_is)
    (case l3 => k_is)
    (case cc3 => k_is)
    (case k3 => k_is)
    (case a4 => k_is)
    (case l4 => k_is)
    (case cc4 => k_is)
    (case k4 => k_is)
    (case a5 => k_is)
    (case l5 => k_is)
    (case cc5 => k_is)
    (case k5 => k_is)
    (case a6 => k_is)
    (case l6 => k_is)
    (case cc6 => k_is)
    (case k6 => k_is)
    (case a7 => k_is)
    (case l7 => k_is)
    (case cc7 => k_is)
    (case k7 => k_is)
    (case a8 => k_is)
    (case l8 => k_is)
    (case cc8 => k_is)
    (case k8 => k_is)
    (case a9 => k_is)
    (case l9 => k_is)
    (case cc9 => k_is)
    (case k9 => k_is)
    (case a10 => k_is)
    (case l10 => k_is)
    (case cc10 => k_is)
    (case k10 => k_is)
    (case a11 => k_is)
    (case l11 => k_is)
    (case cc11 => k_is)
    (case k11 => k_is)
    (case a12 => k_is)
    (case l12 => k_is)
    (case cc12 => k_is)
    (case k12 => k_is)
    (case a13 => k_is)
    (case l13 => k_is)
    (case cc13 => k_is)
    (case k13 => k_is)
    (case a14 => k_is)
    (case l14 => k_is)
    (case cc14 => k_is)
    (case k14 => k_is)
    (case a15 => k_is)
    (case l15 => k_is)
    (case cc15 => k_is)
    (case k15 => k_is)
    (case a16 => k_is)
    (case l16 => k_is)
    (case cc16 => k_is)
    (case k16 => k_is)
    (case a17 => k_is)
    (case l17 => k_is)
    (case cc17 => k_is)
    (case k17 => k_is)
    (case a18 => k_is)
    (case l18 => k_is)
    (case cc18 => k_is)
    (case k18 => k_is)
    (case a19 => k_is)
    (case l19 => k_is)
    (case cc19 => k_is)
    (case k19 => k_is)
    (case a20 => k_is)
    (case l20 => k_is)
    (case cc20 => k_is)
    (case k20 => k_is)
    (case a21 => k_is)
    (case l21 => k_is)
    (case cc21 => k_is)
    (case k21 => k_is)
    (case a22 => k_is)
    (case l22 => k_is)
    (case cc22 => k_is)
    (case k22 => k_is)
    (case a23 => k_is)
    (case l23 => k_is)
    (case cc23 => k_is)
    (case k23 => k_is)
    (case a24 => k_is)
    (case l24 => k_is)
    (case cc24 => k_is)
    (case k24 => k_is)
    (case a25 => k_is)
    (case l25 => k_is)
    (case cc25 => k_is)
    (case k25 => k_is)
    (case a26 => k_is)
    (case l26 => k_is)
    (case cc26 => k_is)
    (case k26 => k_is)
    (case a27 => k_is)
    (case i27 => k_is)
    (case l27 => k_is)
    (case cc27 => k_is)
    (case k27 => k_is)
    (case a28 => k_is)
    (case i28 => k_is)
    (case l28 => k_is)
    (case cc28 => k_is)
    (case k28 => k_is)
    (case a29 => k_is)
    (case i29 => k_is)
    (case l29 => k_is)
    (case cc29 => k_is)
    (case k29 => k_is)
    (case a30 => k_is)
    (case i30 => k_is)
    (case l30 => k_is)
    (case cc30 => k_is)
    (case k30 => k_is)
    (case a31 => k_is)
    (case i31 => k_is)
    (case l31 => k_is)
    (case cc31 => k_is)
    (case k31 => k_is)
    (case a32 => k_is)
    (case i32 => k_is)
    (case l32 => k_is)
    (case cc32 => k_is)
    (case k32 => k_is)
    (case a33 => k_is)
    (case i33 => k_is)
    (case l33 => k_is)
    (case cc33 => k_is)
    (case k33 => k_is)
    (case a34 => k_is)
    (case i34 => k_is)
    (case l34 => k_is)
    (case cc34 => k_is)
    (case k34 => k_is)
    (case a35 => k_is)
    (case i35 => k_is)
    (case l35 => k_is)
    (case cc35 => k_is)
    (case k35 => k_is)
    (case a36 => k_is)
    (case i36 => k_is)
    (case l36 => k_is)
    (case cc36 => k_is)
    (case k36 => k_is)
    (case a37 => k_is)
    (case i37 => k_is)
    (case l37 => k_is)
    (case cc37 => k_is)
    (case k37 => k_is)
    (case a38 => k_is)
    (case l38 => k_is)
    (case cc38 => k_is)
    (case k38 => k_is)
    (case a39 => k_is)
    (case l39 => k_is)
    (case cc39 => k_is)
    (case k39 => k_is)
    (case a40 => k_is)
    (case l40 => k_is)
    (case cc40 => k_is)
    (case k40 => k_is)
    (case pg_Rules => k_is)
    (case hd_Rules => k_is)
    (case po_Rules => k_is)
    (case sa_Rules => k_is)
    (case mk_Rules => k_is)
    (case kc_Rules => k_is)
    (case n_Rules_sets => k_is)
    (case n_Rules_games => k_is)
    (case n_Rules_long => k_is)
    (case n_Rules_short => k_is)
    (case pg_Score => k_is)
    (case hd_Score => k_is)
    (case po_Score => k_is)
    (case sa_Score => k_is)
    (case mk_Score => k_is)
    (case kc_Score => k_is)
    (case n_Score_done => k_is)
    (case n_Score_won => k_is)
    (case n_Score_games => k_is)
    (case n_Score_points => k_is)
    (case pg_Desk => k_is)
    (case hd_Desk => k_is)
    (case po_Desk => k_is)
    (case sa_Desk => k_is)
    (case mk_Desk => k_is)
    (case kc_Desk => k_is)
    (case n_Desk_rules => k_is)
    (case n_Desk_winners => k_is)
    (case n_Desk_scores => k_is)
    (case v_GAME_POINTS => k_is)
    (case v_TIE_BREAK_POINTS => k_is)
    (case v_LEAD => k_is)
    (case v_POINTS_TO_AN_ENDS_CHANGE => k_is)
    (case v_BEGIN => k_is)
    (case v_TOLD => k_is)
    (case v_POINT => k_is)
    (case v_BACK => k_is)
    (case v_RIGHT => k_is)
    (case v_SCORE => k_is)
    (case v_NEXT => k_is)
    (case v_NEED => k_is)
    (case v_NO_SUCH_POINT => k_is)
    (case v_TOO_MANY_POINTS => k_is)
    (case v_MATCH_IS_OVER => k_is)
    (case v_OUT_OF_RANGE => k_is)
    (case v_CANNOT_BE => k_is)
    (case v_NO_RULES => k_is)
    (case v_TOLD_TOO_MUCH => k_is)
    (case v_MOST_SETS_TO_WIN => k_is)
    (case v_LEAST_GAMES => k_is)
    (case v_MOST_GAMES => k_is)
    (case v_MOST_POINTS => k_is)
    (case v_MOST_SETS_TOLD => k_is)
    (case v_MOST_TOLD => k_is)
    (case v_CHANGED_ENDS => k_is)
    (case v_CALL_LENGTHS => k_is)
    (case l_CALL_LENGTHS => k_is)
    (case h_CALL_LENGTHS => exact ⟨rfl, rfl, rfl, by decide +kernel⟩)
    (case v_POINT_TEXTS => k_is)
    (case l_POINT_TEXTS => k_is)
    (case h_POINT_TEXTS => exact ⟨rfl, by decide, rfl⟩)
    (case z_abs => k_is)
    (case z_len => k_is)
    (case z_list => k_is)
    (case z_max => k_is)
    (case z_min => k_is)
    (case z_ord => k_is)
    (case z_range => k_is)
    (case z_sum => k_is)
  case S =>
    intro K H xs a hO hwi hask hx
    cases hx with
    | cons h1 h2 =>
      cases h2
      cases h1 with
      | lst hs ha =>
        have e := L2.ints_dw a.1 _ ha
        subst e
        have q : ((Codec.inLen 0 31000 a.1 && a.1.all (Codec.inInt 0 4294967295)) && true) = true := hwi
        rw [Bool.and_eq_true, Bool.and_eq_true] at q
        exact ⟨_, a.1, rfl, hs, hask, (Codec.inNat_iff.mp q.1.1).2, fun H' p hp => .lst (L2.SqL.of hp) (L2.dw_ints _)⟩
#print axioms PySem.Challenge.cw_pointdesk_s01_answers_holds

