import PyProof.Rows.All
import Wide.All
import OpenK.AllK
import Wide.FinOn
import PyProof.EqAt
import PyProof.EqKinds
import PyProof.TupleCall
import KE.BitLaws
import Open.SpecLaws
import KE.OsHead
import KE.OsGo
import PySem.Challenge.RW_faultfind_s01_answers
set_option Elab.async false
set_option linter.all false
set_option maxRecDepth 100000
/-! THE HAND LAYER, for ints, bools, texts, own classes, lists, tuples, dicts, comprehensions, walks over dicts, enumerate, zip, reversed, texts, calls, loops. Paste it whole ahead of your own text; what your proof does not reach may be deleted. -/
namespace L2
open PySem PySem.Spec PyProof.Rows

/-- a key: an int or a str -/
abbrev Key := Sum Int Str
def keyIs : Key → Value → Bool
  | .inl k, v => Value.isInt k v
  | .inr x, v => Value.isStrOf x v
def keyH (w : World) : Key → Int
  | .inl k => hashInt k
  | .inr x => hashStr w x
theorem keyIs_shape : ∀ {k : Key} {v : Value}, keyIs k v = true → (∃ i t, k = Sum.inl i ∧ v = Value.int i t) ∨ (∃ x t, k = Sum.inr x ∧ v = Value.str x t)
  | .inl i, v, h => by
    obtain ⟨t, e⟩ := Value.isInt_shape (k := i) (v := v) h
    exact .inl ⟨i, t, rfl, e⟩
  | .inr x, v, h => by
    obtain ⟨t, e⟩ := Value.isStrOf_shape (x := x) (v := v) h
    exact .inr ⟨x, t, rfl, e⟩
theorem keyIs_int (i : Int) (t : Tok) : keyIs (.inl i) (.int i t) = true := by simp [keyIs, Value.isInt]
theorem keyIs_str (x : Str) (t : Tok) : keyIs (.inr x) (.str x t) = true := by simp [keyIs, Value.isStrOf]
theorem key_ll (a b : Int) : decide ((Sum.inl a : Key) = Sum.inl b) = (a == b) := by
  by_cases e : a = b
  · subst e; simp
  · have h : ¬ (Sum.inl a : Key) = Sum.inl b := fun q => e (Sum.inl.inj q)
    rw [decide_eq_false h]
    exact (beq_eq_false_iff_ne.mpr e).symm
theorem key_rr (a b : Str) : decide ((Sum.inr a : Key) = Sum.inr b) = decide (a = b) := by
  by_cases e : a = b
  · subst e; simp
  · have h : ¬ (Sum.inr a : Key) = Sum.inr b := fun q => e (Sum.inr.inj q)
    rw [decide_eq_false h, decide_eq_false e]
theorem key_lr (a : Int) (b : Str) : decide ((Sum.inl a : Key) = Sum.inr b) = false := decide_eq_false (fun q => nomatch q)
theorem key_rl (a : Str) (b : Int) : decide ((Sum.inr a : Key) = Sum.inl b) = false := decide_eq_false (fun q => nomatch q)

def mixKind (prog : Program) (w : World) : PySem.KeyKind prog w Key where
  is := keyIs
  hash := keyH w
  inj := fun v a b ha hb => by
    rcases keyIs_shape ha with ⟨i, t, rfl, rfl⟩ | ⟨x, t, rfl, rfl⟩
    · rcases keyIs_shape hb with ⟨j, u, rfl, e⟩ | ⟨y, u, rfl, e⟩
      · injection e with e1 _; rw [e1]
      · exact nomatch e
    · rcases keyIs_shape hb with ⟨j, u, rfl, e⟩ | ⟨y, u, rfl, e⟩
      · exact nomatch e
      · injection e with e1 _; rw [e1]
  byValue := fun k v h => by
    rcases keyIs_shape h with ⟨i, t, rfl, rfl⟩ | ⟨x, t, rfl, rfl⟩ <;> rfl
  pyHash := fun hv h => by
    rcases keyIs_shape hv with ⟨i, t, rfl, rfl⟩ | ⟨x, t, rfl, rfl⟩
    · exact wpAny_pyHash_int h
    · exact wpAny_pyHash_str h
  eqBool := fun hu hv h => by
    rcases keyIs_shape hu with ⟨i, t, rfl, rfl⟩ | ⟨x, t, rfl, rfl⟩
    · rcases keyIs_shape hv with ⟨j, u, rfl, rfl⟩ | ⟨y, u, rfl, rfl⟩
      · rw [key_ll] at h; exact wpAny_eqBool_int h
      · rw [key_lr] at h; exact SeqAt.EqAt.int_str i t y u _ _ _ _ h
    · rcases keyIs_shape hv with ⟨j, u, rfl, rfl⟩ | ⟨y, u, rfl, rfl⟩
      · rw [key_rl] at h; exact SeqAt.EqAt.str_int x t j u _ _ _ _ h
      · rw [key_rr] at h; exact wpAny_eqBool_str h
  «strs» := fun k x t v h => by
    rcases keyIs_shape h with ⟨i, u, rfl, e⟩ | ⟨y, u, rfl, e⟩
    · exact nomatch e
    · injection e with e1 _
      subst e1
      cases v <;> rfl

theorem mixKind_int (prog : Program) (w : World) (i : Int) (t : Tok) : (mixKind prog w).is (.inl i) (.int i t) = true := keyIs_int i t
theorem mixKind_str (prog : Program) (w : World) (x : Str) (t : Tok) : (mixKind prog w).is (.inr x) (.str x t) = true := keyIs_str x t
end L2

namespace L2
open PySem PySem.Spec PyProof.Rows

/-- a value, without the heap -/
inductive V where
  | non | bl (b : Bool) | int (i : Int) | str (x : Str) | byt (b : Array UInt8) | flt (b : UInt64) | ref (a : Addr) | ty (n : String)
  deriving DecidableEq

def RelV : V → Value → Prop
  | .non, u => u = Value.none
  | .bl b, u => u = Value.bool b
  | .int i, u => ∃ t, u = Value.int i t
  | .str x, u => ∃ t, u = Value.str x t
  | .byt b, u => ∃ t, u = Value.bytes b t
  | .flt b, u => ∃ t, u = Value.float b t
  | .ref a, u => u = Value.ref a
  | .ty n, u => u = Value.type n

abbrev Vals : List V → List Value → Prop := Paired RelV
theorem Vals.length {xs : List V} {us : List Value} (r : Vals xs us) : xs.length = us.length := Paired.length r
theorem Vals.get : ∀ {xs : List V} {us : List Value} {i : Nat} {x : V}, Vals xs us → xs[i]? = some x → ∃ u, us[i]? = some u ∧ RelV x u
  | _, _, _, _, .nil, e => by simp at e
  | _, _, 0, _, .cons r _, e => by simp at e; subst e; exact ⟨_, rfl, r⟩
  | _, _, i + 1, x, .cons _ t, e => by
    obtain ⟨u, h1, h2⟩ := Vals.get (i := i) (x := x) t (by simpa using e)
    exact ⟨u, by simpa using h1, h2⟩
theorem Vals.append : ∀ {xs ys : List V} {us ws : List Value}, Vals xs us → Vals ys ws → Vals (xs ++ ys) (us ++ ws)
  | _, _, _, _, .nil, s => s
  | _, _, _, _, .cons r t, s => .cons r (Vals.append t s)
theorem Vals.take : ∀ {xs : List V} {us : List Value} (n : Nat), Vals xs us → Vals (xs.take n) (us.take n)
  | _, _, 0, _ => .nil
  | _, _, _ + 1, .nil => .nil
  | _, _, n + 1, .cons r t => .cons r (Vals.take n t)
theorem Vals.drop : ∀ {xs : List V} {us : List Value} (n : Nat), Vals xs us → Vals (xs.drop n) (us.drop n)
  | _, _, 0, r => r
  | _, _, _ + 1, .nil => .nil
  | _, _, n + 1, .cons _ t => Vals.drop n t
def RelO : Option V → Option Value → Prop
  | some v, some u => RelV v u
  | none, none => True
  | _, _ => False
def KV {κ : Type} : List (κ × V) → List (κ × Value) → Prop := Paired fun (p : κ × V) (q : κ × Value) => p.1 = q.1 ∧ RelV p.2 q.2

/-- a key of a dict (00_mix): an int or a text -/
def kV : Key → V
  | .inl i => .int i
  | .inr x => .str x

/-- what stands at a tracked address -/
inductive HO where
  /-- a list -/
  | lst (xs : List V)
  /-- a tuple (never changes) -/
  | tup (xs : List V)
  /-- a dict whose keys are ints and texts; one whose keys are tuples of ints and texts (the empty one is both) -/
  | dK (kvs : List (Key × V)) | dT (kvs : List (List Key × V))
  /-- a set of ints: its members, its size -/
  | set (S : Int → Bool) (n : Nat)
  /-- an instance of the class at C, its dict at dx, its attributes -/
  | ins (C dx : Addr) (fs : List (Str × V))
  /-- the dict of the instance at x -/
  | own (x : Addr)
  /-- the dict of an exception -/
  | xd (fs : List (Str × V))
  /-- a bound method, f of x -/
  | met (f x : Addr)
  /-- a range object lo, lo + 1, .. below hi -/
  | rng (lo hi : Int)
  /-- a thing that is known to the object (the script; a dict while a loop walks it): read, never written while it is so -/
  | frz (o : Obj) (u : HO)
  /-- a code object's table -/
  | tbl (ps : Array Value)
  /-- any other thing, by what is true of its one object (a def of one's own: SetO a S n := HO.ext fun h => ..) -/
  | ext (φ : Heap → Prop)

abbrev Hp := Addr → Option HO
def upd (H : Hp) (a : Addr) (o : HO) : Hp := fun b => if b = a then some o else H b
theorem upd_same {H : Hp} {a : Addr} {o : HO} : upd H a o a = some o := by unfold upd; rw [if_pos rfl]
theorem upd_ne {H : Hp} {a b : Addr} {o : HO} (h : b ≠ a) : upd H a o b = H b := by unfold upd; rw [if_neg h]
theorem upd_upd {H : Hp} {a : Addr} {o u : HO} : upd (upd H a o) a u = upd H a u := by
  funext b; unfold upd; split <;> rfl
/-- two objects of different content stand apart -/
theorem ne_of {H : Hp} {a b : Addr} {o u : HO} (h : H a = some o) (h' : H b = some u) (d : o ≠ u) : a ≠ b := by
  intro e; subst e; rw [h] at h'; exact d (Option.some.inj h')
theorem ne_of_none {H : Hp} {a b : Addr} {o : HO} (h : H a = some o) (h' : H b = none) : a ≠ b := by
  intro e; subst e; rw [h] at h'; cases h'

section
variable (P : Program) (w : World)
def ObjOk (H : Hp) (h : Heap) (a : Addr) : HO → Prop
  | .lst xs => xs.length ≤ sizeLine ∧ ∃ (its : List Value) (n : Nat), Vals xs its ∧ h.get? a = some { cls := .type "list", data := .seq its.toArray n }
  | .tup xs => xs.length ≤ sizeLine ∧ ∃ its : List Value, Vals xs its ∧ IsTup h a its.toArray
  | .dK kvs => kvs.length ≤ sizeLine ∧ (a == sysModules) = false ∧ ∃ vs, KV kvs vs ∧ h.DictOf (mixKind P w) a vs
  | .dT kvs => kvs.length ≤ sizeLine ∧ (a == sysModules) = false ∧ ∃ xs : List (List Key × Addr × Value),
      Paired (fun (p : List Key × V) (q : List Key × Addr × Value) => p.1 = q.1 ∧ H q.2.1 = some (.tup (p.1.map kV)) ∧ RelV p.2 q.2.2) kvs xs ∧
      ∃ o es ep, h.get? a = some o ∧ o.ExactDict ∧ o.data = .dict es ep ∧ es.toList = xs.map (entryOfKey (tupleKind (mixKind P w))) ∧ (xs.map (·.1)).Nodup
  | .set S n => h.SetOf (intKind P w) a S n
  | .ins C dx fs => H dx = some (.own a) ∧ fs.length ≤ 1000 ∧ dx ≠ a ∧ h.get? a = some (PySem.W.instObj C dx) ∧
      ∃ mA, h.Ns1 dx mA ∧ (∀ f, RelO (fs.lookup f) (mA f)) ∧ PySem.Within mA (fs.map (·.1))
  | .own _ => ∃ o, h.get? a = some o
  | .xd fs => ∃ mA, h.Ns1 a mA ∧ ∀ f, RelO (fs.lookup f) (mA f)
  | .rng lo hi => ∃ t u v, h.get? a = some { cls := .type "range", data := .fields #[.int lo t, .int hi u, .int 1 v] }
  | .frz o u => h.get? a = some o ∧ ObjOk H h a u
  | .tbl ps => h.get? a = some { cls := .none, data := .fields ps }
  | .met f x => h.get? a = some (PySem.W.methodObj (.ref f) (.ref x))
  | .ext φ => φ h ∧ (∃ o, h.get? a = some o) ∧ ∀ h1 h2 : Heap, φ h1 → (∀ o, h1.get? a = some o → h2.get? a = some o) → φ h2
/-- the abstract heap is held -/
def HOk (H : Hp) (h : Heap) : Prop := ∀ a o, H a = some o → ObjOk P w H h a o
end

section
variable {P : Program} {w : World} {H H' : Hp} {h h' : Heap} {a : Addr} {o : HO}
theorem ObjOk.lt (x : ObjOk P w H h a o) : a < h.objs.size := by
  cases o with
  | lst xs => obtain ⟨_, _, _, _, e⟩ := x; exact Heap.lt_size e
  | tup xs => obtain ⟨_, _, _, p⟩ := x; exact p.lt
  | dK kvs => obtain ⟨_, _, _, _, o, _, _, e, _⟩ := x; exact Heap.lt_size e
  | dT kvs => obtain ⟨_, _, _, _, o, _, _, e, _⟩ := x; exact Heap.lt_size e
  | set S n => obtain ⟨o, _, _, _, e, _⟩ := x; exact Heap.lt_size e
  | ins C dx fs => obtain ⟨_, _, _, e, _⟩ := x; exact Heap.lt_size e
  | own y => obtain ⟨_, e⟩ := x; exact Heap.lt_size e
  | xd fs => obtain ⟨_, ⟨_, _, _, e, _⟩, _⟩ := x; exact Heap.lt_size e
  | rng lo hi => obtain ⟨_, _, _, e⟩ := x; exact Heap.lt_size e
  | frz ob u => obtain ⟨e, _⟩ := x; exact Heap.lt_size e
  | tbl ps => exact Heap.lt_size (show h.get? a = some _ from x)
  | met f y => exact Heap.lt_size (show h.get? a = some _ from x)
  | ext φ => obtain ⟨_, ⟨_, e⟩, _⟩ := x; exact Heap.lt_size e
theorem Paired.mapP {α β : Type} {F G : α → β → Prop} : ∀ {l₁ : List α} {l₂ : List β}, Paired F l₁ l₂ → (∀ a b, F a b → G a b) → Paired G l₁ l₂
  | _, _, .nil, _ => .nil
  | _, _, .cons r t, f => .cons (f _ _ r) (Paired.mapP t f)
/-- what an object's description leans on: its own object, its own dict, the tuples -/
theorem ObjOk.stay (x : ObjOk P w H h a o) (k : ∀ b u, (b = a ∨ H b = some (.own a)) → h.get? b = some u → h'.get? b = some u)
    (ho : ∀ b, H b = some (.own a) → H' b = some (.own a)) (ht : ∀ b xs, H b = some (.tup xs) → H' b = some (.tup xs)) : ObjOk P w H' h' a o := by
  induction o with
  | lst xs => obtain ⟨z, its, n, r, e⟩ := x; exact ⟨z, its, n, r, k _ _ (.inl rfl) e⟩
  | tup xs => obtain ⟨z, its, r, ob, e, c⟩ := x; exact ⟨z, its, r, ob, k _ _ (.inl rfl) e, c⟩
  | dK kvs => obtain ⟨z, y, vs, r, ob, es, ep, e, c⟩ := x; exact ⟨z, y, vs, r, ob, es, ep, k _ _ (.inl rfl) e, c⟩
  | dT kvs =>
    obtain ⟨z, y, xs, r, ob, es, ep, e, c⟩ := x
    exact ⟨z, y, xs, Paired.mapP r fun p q z => ⟨z.1, ht _ _ z.2.1, z.2.2⟩, ob, es, ep, k _ _ (.inl rfl) e, c⟩
  | set S n => obtain ⟨ob, es, ep, t, e, c⟩ := x; exact ⟨ob, es, ep, t, k _ _ (.inl rfl) e, c⟩
  | ins C dx fs =>
    obtain ⟨d, z, ne, e, mA, ⟨od, es, ep, e2, c⟩, r⟩ := x
    exact ⟨ho _ d, z, ne, k _ _ (.inl rfl) e, mA, ⟨od, es, ep, k _ _ (.inr d) e2, c⟩, r⟩
  | own y => obtain ⟨ob, e⟩ := x; exact ⟨ob, k _ _ (.inl rfl) e⟩
  | xd fs => obtain ⟨mA, ⟨od, es, ep, e, c⟩, r⟩ := x; exact ⟨mA, ⟨od, es, ep, k _ _ (.inl rfl) e, c⟩, r⟩
  | rng lo hi => obtain ⟨t, u, v, e⟩ := x; exact ⟨t, u, v, k _ _ (.inl rfl) e⟩
  | frz ob u ih => obtain ⟨e, q⟩ := x; exact ⟨k _ _ (.inl rfl) e, ih q⟩
  | tbl ps =>
    have e : h.get? a = some { cls := .none, data := .fields ps } := x
    show h'.get? a = some { cls := .none, data := .fields ps }
    exact k a _ (.inl rfl) e
  | met f y =>
    have e : h.get? a = some (PySem.W.methodObj (.ref f) (.ref y)) := x
    show h'.get? a = some (PySem.W.methodObj (.ref f) (.ref y))
    exact k a _ (.inl rfl) e
  | ext φ => obtain ⟨p, ⟨o, e⟩, st⟩ := x; exact ⟨st _ _ p fun o q => k _ _ (.inl rfl) q, ⟨o, k _ _ (.inl rfl) e⟩, st⟩
theorem HOk.lt (x : HOk P w H h) (e : H a = some o) : a < h.objs.size := (x a o e).lt
theorem HOk.fresh (x : HOk P w H h) (e : h.objs.size ≤ a) : H a = none := by
  cases q : H a with
  | none => rfl
  | some u => exact absurd (Nat.lt_of_lt_of_le (x.lt q) e) (Nat.lt_irrefl _)
/-- every object of the heap is kept -/
theorem HOk.kept (x : HOk P w H h) (k : ∀ b u, h.get? b = some u → h'.get? b = some u) : HOk P w H h' := fun a o e =>
  (x a o e).stay (fun b u _ q => k b u q) (fun _ q => q) fun _ _ q => q
/-- a new object is laid and tracked -/
theorem HOk.laid (x : HOk P w H h) (k : ∀ b u, h.get? b = some u → h'.get? b = some u) (hp : h.objs.size ≤ a) (new : ObjOk P w (upd H a o) h' a o) : HOk P w (upd H a o) h' := fun b u e => by
  have hn := x.fresh hp
  by_cases hb : b = a
  · subst hb; rw [upd_same] at e; cases e; exact new
  · rw [upd_ne hb] at e
    exact (x b u e).stay (fun c v _ q => k c v q) (fun c q => by rw [upd_ne (ne_of_none q hn)]; exact q) fun c xs q => by rw [upd_ne (ne_of_none q hn)]; exact q
end

/-- what may be read as u: it is u, or a known u -/
def Rd (H : Hp) (a : Addr) (u : HO) : Prop := H a = some u ∨ ∃ o, H a = some (.frz o u)
theorem Rd.ok {P : Program} {w : World} {H : Hp} {h : Heap} {a : Addr} {u : HO} (r : Rd H a u) (x : HOk P w H h) : ObjOk P w H h a u := by
  rcases r with r | ⟨o, r⟩
  · exact x a u r
  · obtain ⟨_, q⟩ := x a _ r
    exact q
/-- what may be written -/
def Mut : Option HO → Prop
  | some (.lst _) => True
  | some (.dK _) => True
  | some (.dT _) => True
  | some (.set _ _) => True
  | some (.ins _ _ _) => True
  | some (.ext _) => True
  | _ => False
section
variable {P : Program} {w : World} {H : Hp} {h h' : Heap} {x e : Addr} {o' : HO}
/-- the object at e is changed: x itself, or the dict of the instance x -/
theorem HOk.write (ok : HOk P w H h) (mu : Mut (H x)) (he : e = x ∨ H e = some (.own x)) (k : ∀ b u, b ≠ e → h.get? b = some u → h'.get? b = some u) (heo : ∃ u, h'.get? e = some u)
    (new : ObjOk P w (upd H x o') h' x o') : HOk P w (upd H x o') h' := fun b u q => by
  have nown : ∀ c y, H c = some (.own y) → c ≠ x := fun c y r z => by subst z; rw [r] at mu; exact mu
  have ntup : ∀ c xs, H c = some (.tup xs) → c ≠ x := fun c xs r z => by subst z; rw [r] at mu; exact mu
  by_cases hb : b = x
  · subst hb; rw [upd_same] at q; cases q; exact new
  · rw [upd_ne hb] at q
    by_cases hbe : b = e
    · have q' : H b = some (.own x) := by
        rcases he with z | z
        · exact absurd (hbe.trans z) hb
        · rw [hbe]; exact z
      rw [q] at q'; cases q'
      obtain ⟨v, hv⟩ := heo
      exact ⟨v, by rw [hbe]; exact hv⟩
    · refine (ok b u q).stay (fun c v hc r => k c v ?_ r) (fun c r => by rw [upd_ne (nown c b r)]; exact r) fun c xs r => by rw [upd_ne (ntup c xs r)]; exact r
      rcases hc with rfl | hc
      · exact hbe
      · rintro rfl
        rcases he with z | z
        · exact nown c b hc z
        · rw [hc] at z; cases z; exact hb rfl
end

/-! ### kept unless tracked; of the frames at fs (the callers') the slots may change (an exception that passes writes there); of the records at ex (iterators) nothing is said -/
structure Un (fs ex : List Addr) (H H' : Hp) (h h' : Heap) : Prop where
  keep : ∀ b o, h.get? b = some o → H b = none → b ∉ fs → b ∉ ex → h'.get? b = some o
  slot : ∀ b o, h.get? b = some o → H b = none → b ∈ fs → b ∉ ex → ∃ sl, h'.get? b = some { o with slots := sl }
  free : ∀ b o, h.get? b = some o → H b = none → b ∉ ex → H' b = none
  there : ∀ b o, h.get? b = some o → b ∉ ex → ∃ o', h'.get? b = some o'
  tups : ∀ b xs, H b = some (.tup xs) → H' b = some (.tup xs)
  frzs : ∀ b o u, H b = some (.frz o u) → H' b = some (.frz o u)
  tbls : ∀ b ps, H b = some (.tbl ps) → ∃ more, H' b = some (.tbl (ps ++ more))
section
variable {fs fs' ex ex' : List Addr} {H H1 H2 : Hp} {h h1 h2 h' : Heap} {a x e : Addr} {o : HO}
theorem Un.any (u : Un fs ex H H1 h h1) {b : Addr} {ob : Obj} (q : h.get? b = some ob) (n : H b = none) (hx : b ∉ ex) : ∃ sl, h1.get? b = some { ob with slots := sl } := by
  by_cases hb : b ∈ fs
  · exact u.slot b ob q n hb hx
  · exact ⟨ob.slots, u.keep b ob q n hb hx⟩
theorem Un.kept (k : ∀ b u, h.get? b = some u → h'.get? b = some u) : Un fs ex H H h h' :=
  ⟨fun b ob q _ _ _ => k b ob q, fun b ob q _ _ _ => ⟨ob.slots, k b ob q⟩, fun _ _ _ n _ => n, fun b ob q _ => ⟨ob, k b ob q⟩, fun _ _ q => q, fun _ _ _ q => q, fun _ ps q => ⟨#[], by rw [q]; simp⟩⟩
theorem Un.refl : Un fs ex H H h h := Un.kept fun _ _ q => q
theorem Un.laid (k : ∀ b u, h.get? b = some u → h'.get? b = some u) (hp : h.objs.size ≤ a) (hn : H a = none) : Un fs ex H (upd H a o) h h' where
  keep := fun b u q _ _ _ => k b u q
  slot := fun b u q _ _ _ => ⟨u.slots, k b u q⟩
  free := fun b u q n _ => by rw [upd_ne (Nat.ne_of_lt (Nat.lt_of_lt_of_le (Heap.lt_size q) hp))]; exact n
  there := fun b u q _ => ⟨u, k b u q⟩
  tups := fun b xs q => by rw [upd_ne (ne_of_none q hn)]; exact q
  frzs := fun b u xs q => by rw [upd_ne (ne_of_none q hn)]; exact q
  tbls := fun b ps q => ⟨#[], by rw [upd_ne (ne_of_none q hn), q]; simp⟩
theorem Un.write (mu : Mut (H x)) (he : e = x ∨ H e = some (.own x)) (k : ∀ b u, b ≠ e → h.get? b = some u → h'.get? b = some u) (heo : ∃ u, h'.get? e = some u) : Un fs ex H (upd H x o) h h' := by
  have hx : ∀ b, H b = none → b ≠ x := fun b n z => by subst z; rw [n] at mu; exact mu
  have hb : ∀ b, H b = none → b ≠ e := fun b n z => by
    subst z
    rcases he with r | r
    · exact hx b n r
    · rw [n] at r; cases r
  have hm : ∀ b u, H b = some u → ¬ Mut (some u) → b ≠ x := fun b u q nm z => by subst z; rw [q] at mu; exact nm mu
  refine ⟨fun b u q n _ _ => k b u (hb b n) q, fun b u q n _ _ => ⟨u.slots, k b u (hb b n) q⟩, fun b u q n _ => by rw [upd_ne (hx b n)]; exact n, fun b u q _ => ?_,
    fun b xs q => by rw [upd_ne (hm b _ q fun z => z)]; exact q, fun b u xs q => by rw [upd_ne (hm b _ q fun z => z)]; exact q, fun b ps q => ⟨#[], by rw [upd_ne (hm b _ q fun z => z), q]; simp⟩⟩
  by_cases hbe : b = e
  · subst hbe; exact heo
  · exact ⟨u, k b u hbe q⟩
end

/-! ### the heap without what is tracked -/
def trk (h : Heap) (H : Hp) : List Addr := (List.range h.objs.size).filter fun a => (H a).isSome
def hidT (h : Heap) (H : Hp) : Heap := PySem.W.hideAll h (trk h H)
theorem hidT_size (h : Heap) (H : Hp) : (hidT h H).objs.size = h.objs.size := PySem.W.hideAll_size _ _
theorem hidT_get {h : Heap} {H : Hp} {b : Addr} {o : Obj} (e : h.get? b = some o) (n : H b = none) : (hidT h H).get? b = some o :=
  PySem.W.hideAll_get _ e fun hm => by
    have q : (H b).isSome = true := (List.mem_filter.mp hm).2
    rw [n] at q; simp at q
theorem of_hidT {h : Heap} {H : Hp} {b : Addr} {o : Obj} (e : (hidT h H).get? b = some o) : h.get? b = some o ∧ H b = none := by
  have e' : h.get? b = some o := PySem.W.of_hideAll (trk h H) e
  refine ⟨e', ?_⟩
  cases q : H b with
  | none => rfl
  | some x =>
    have hm : b ∈ trk h H := List.mem_filter.mpr ⟨List.mem_range.mpr (Heap.lt_size e'), by simp [q]⟩
    have z : (hidT h H).get? b = none := PySem.W.hideAll_none (trk h H) hm
    rw [z] at e; cases e

/-! ### OpenK's ledger, filled with every new object but one -/
def allNews (g h : Heap) (L : Addr) : List (Addr × Obj) := (List.range h.objs.size).filterMap fun a => if a = L ∨ (g.get? a).isSome = true then none else (h.get? a).map fun o => (a, o)
def rest (g h : Heap) (L d : Addr) : List (Addr × Obj) := (allNews g h L).filter fun p => decide (p.1 ≠ d)
end L2

namespace L2
open PySem PySem.Spec PyProof.Rows

/-- the module's facts, over the base: the heap at the law's entry without what is tracked there -/
structure Mod (K : PySem.W.Frag) (mg : Str → Option Value) (base : Heap) : Prop where
  kin : K.In base
  glob : base.Ns mainGlobals mg
  blt : ∃ mb, base.Ns builtinsNs mb ∧ ∀ x : Str, x ≠ "__name__" → mb x = bootBuiltins x
  nolimit : base.NoLimit

/-- the context: a def's body (or a comprehension's block) running. base: fixed through the whole law; s₀, H₀: the entry; outer: the frames whose slots others may change (a def's callers); stack: all frames that run;
   ex: iterators that were made ahead of the entry and are walked here (a comprehension's); fn: the names whose cells were made at the entry (a def: all; a comprehension's block: its own); calm: not within an except suite; pn: pins that every state bears; xe: what is wanted of an exception that leaves the code -/
structure Cx where
  prog : Program
  w : World
  K : PySem.W.Frag
  mg : Str → Option Value
  base : Heap
  A : Around
  N : List Str
  s_0 : Shared
  H_0 : Hp
  env : Env
  outer : List Env
  stack : List Env
  ex : List Addr
  fn : Str → Bool
  calm : Bool
  pn : List (Addr × Obj)
  xe : Value → Shared → Prop
/-- the callers' frames -/
def frs (l : List Env) : List Addr := l.filterMap (·.frame)
abbrev Cx.fs (X : Cx) : List Addr := frs X.outer

def Vis (sc : Scope) (x : Str) : Prop := sc.names.lookup x = some .local ∨ sc.names.lookup x = some .cell ∨ sc.names.lookup x = some .free
def Loc (sc : Scope) (x : Str) : Prop := sc.names.lookup x = some .local ∨ sc.names.lookup x = some .cell
def Look (env : Env) (h : Heap) (m : Str → Option Value) (x : Str) (u : Value) : Prop :=
  (env.kindOf x = some .local ∧ m x = some u) ∨ ((env.kindOf x = some .cell ∨ env.kindOf x = some .free) ∧ ∃ c, env.cells.lookup x = some c ∧ h.IsCell c (some u))

structure Cx.Ok (X : Cx) : Prop where
  mod : Mod X.K X.mg X.base
  kind : X.env.scope.kind = .function
  glob : X.env.globals = mainGlobals
  blt : X.env.builtins = builtinsNs
  above : X.s_0.heap.objs.size ≤ X.env.locals
  inj : ∀ x y c, X.env.cells.lookup x = some c → X.env.cells.lookup y = some c → x = y
  has : ∀ x, (X.env.kindOf x = some .cell ∨ X.env.kindOf x = some .free) → ∃ c, X.env.cells.lookup x = some c
  cab : ∀ x c, X.fn x = true → X.env.cells.lookup x = some c → X.s_0.heap.objs.size ≤ c
  hd : X.calm = true → X.A.handled = none
  frames : X.A.frames = some X.stack
  stk : X.stack = X.outer ∨ (X.stack = X.env :: X.outer ∧ X.env.frame = some X.env.locals)
  exf : ∀ b ∈ X.ex, b ≠ X.env.locals ∧ ∀ x c, X.env.cells.lookup x = some c → c ≠ b
  bs : ∀ b o, X.base.get? b = some o → X.s_0.heap.get? b = some o ∧ X.H_0 b = none
  bsz : X.base.objs.size ≤ X.s_0.heap.objs.size
  noex : ∀ b o, X.base.get? b = some o → b ∉ X.ex
  exfs : ∀ b ∈ X.ex, b ∉ X.fs
  funs : X.s_0.heap.FunFrames X.base X.outer
  frf : ∀ b ∈ X.fs, X.H_0 b = none

structure Inv (X : Cx) (pins : List (Addr × Obj)) (σ : List (Option V)) (H : Hp) (s : Shared) : Prop where
  ok : X.Ok
  os : s.os = X.s_0.os
  bare : AllBare s.gens
  base : Un X.fs X.ex X.H_0 H X.s_0.heap s.heap
  loc : ∃ m, s.heap.Ns X.env.locals m ∧ ∀ (i : Nat) (x : Str) (v : V), X.N[i]? = some x → σ[i]? = some (some v) → Vis X.env.scope x → ∃ u, RelV v u ∧ Look X.env s.heap m x u
  cell : ∀ x c, X.env.cells.lookup x = some c → ∃ v, s.heap.IsCell c v
  free : H X.env.locals = none
  freeC : ∀ x c, X.env.cells.lookup x = some c → H c = none
  pin : ∀ p ∈ X.pn ++ pins, s.heap.get? p.1 = some p.2 ∧ H p.1 = none ∧ p.1 ≠ X.env.locals ∧ p.1 ∉ X.fs ∧ ∀ v, p.2.data ≠ .cell v
  hok : HOk X.prog X.w H s.heap
  len : σ.length = X.N.length

section
variable {X : Cx} {pins : List (Addr × Obj)} {σ : List (Option V)} {H H' : Hp} {s : Shared} {h' : Heap}

theorem Cx.Ok.nofr (ok : X.Ok) {b : Addr} {o : Obj} (e : X.base.get? b = some o) : b ∉ X.fs := fun hb => by
  have := (ok.funs.mem hb).1
  rw [e] at this; cases this
theorem Inv.bs (I : Inv X pins σ H s) : ∀ b o, X.base.get? b = some o → s.heap.get? b = some o ∧ H b = none := fun b o e =>
  ⟨I.base.keep b o (I.ok.bs b o e).1 (I.ok.bs b o e).2 (I.ok.nofr e) (I.ok.noex b o e), I.base.free b o (I.ok.bs b o e).1 (I.ok.bs b o e).2 (I.ok.noex b o e)⟩
theorem Inv.bk (I : Inv X pins σ H s) : ∀ b o, X.base.get? b = some o → s.heap.get? b = some o := fun b o e => (I.bs b o e).1
theorem Inv.mod (I : Inv X pins σ H s) : Mod X.K X.mg X.base := I.ok.mod
theorem Inv.kIn (I : Inv X pins σ H s) : X.K.In s.heap := I.ok.mod.kin.keeps I.bk
theorem Inv.lt (I : Inv X pins σ H s) : X.env.locals < s.heap.objs.size := let ⟨_, hn, _⟩ := I.loc; hn.lt
theorem Inv.sz (I : Inv X pins σ H s) : X.s_0.heap.objs.size ≤ s.heap.objs.size := Nat.le_trans I.ok.above (Nat.le_of_lt I.lt)
theorem Inv.nofs (I : Inv X pins σ H s) {a : Addr} (h : s.heap.objs.size ≤ a) : a ∉ X.fs := fun hb => by
  obtain ⟨_, o, ho, _⟩ := I.ok.funs.mem hb
  exact absurd (Nat.lt_of_lt_of_le (Heap.lt_size ho) (Nat.le_trans I.sz h)) (Nat.lt_irrefl _)
theorem Inv.cne (I : Inv X pins σ H s) : ∀ x c, X.env.cells.lookup x = some c → c ≠ X.env.locals := fun x c e z => by
  obtain ⟨v, o, ho, hd⟩ := I.cell x c e
  obtain ⟨m, ⟨o', es, ep, ho', hd', _⟩, _⟩ := I.loc
  rw [z, ho'] at ho; cases ho; rw [hd'] at hd; cases hd
theorem Inv.funs (I : Inv X pins σ H s) : s.heap.FunFrames X.base X.outer := by
  have all : ∀ (l : List Env), (∀ b ∈ frs l, b ∈ X.fs) → X.s_0.heap.FunFrames X.base l → s.heap.FunFrames X.base l := by
    intro l
    induction l with
    | nil => intro _ _; trivial
    | cons env r ih =>
      intro hs hl
      obtain ⟨hk, ⟨L, o, hf, hn, ho, hd⟩, hr⟩ := hl
      have hL : L ∈ X.fs := hs L (by unfold frs; rw [List.filterMap_cons, hf]; exact List.mem_cons_self)
      obtain ⟨sl, e⟩ := I.base.slot L o ho (I.ok.frf L hL) hL fun z => I.ok.exfs L z hL
      exact ⟨hk, ⟨L, _, hf, hn, e, hd⟩, ih (fun b hb => hs b (by unfold frs; rw [List.filterMap_cons, hf]; exact List.mem_cons_of_mem _ hb)) hr⟩
  exact all X.outer (fun _ hb => hb) I.ok.funs

/-- the frames that run, for a call -/
theorem Inv.stack (I : Inv X pins σ H s) : s.heap.FunFrames X.base X.stack := by
  rcases I.ok.stk with e | ⟨e, hf⟩
  · rw [e]; exact I.funs
  · rw [e]
    obtain ⟨m, hn, _⟩ := I.loc
    refine .cons (by rw [I.ok.kind]; decide) hf hn ?_ I.funs
    exact Heap.get?_none_of_le (Nat.le_trans I.ok.bsz I.ok.above)
theorem Inv.stkSub (I : Inv X pins σ H s) : ∀ b ∈ frs X.stack, b ∈ X.env.locals :: X.fs := fun b hb => by
  rcases I.ok.stk with e | ⟨e, hf⟩
  · rw [e] at hb; exact List.mem_cons_of_mem _ hb
  · rw [e] at hb
    unfold frs at hb
    rw [List.filterMap_cons, hf] at hb
    exact hb
theorem Inv.stkFree (I : Inv X pins σ H s) : ∀ b ∈ frs X.stack, H b = none := fun b hb => by
  rcases List.mem_cons.mp (I.stkSub b hb) with e | hb
  · rw [e]; exact I.free
  · obtain ⟨_, o, ho, _⟩ := I.ok.funs.mem hb
    exact I.base.free b o ho (I.ok.frf b hb) fun z => I.ok.exfs b z hb

/-- THE STEP: the untracked objects but the frame and the records at ch are kept (the callers' frames up to slots), the frame's map is kept, the new abstract heap is held -/
theorem Inv.step {g' : Array GenState} {t' : Nat} {d' : Drawn} {ch : List Addr} (I : Inv X pins σ H s)
    (hch : ∀ b ∈ ch, (b ∈ X.ex ∨ X.s_0.heap.objs.size ≤ b) ∧ b ≠ X.env.locals ∧ (∀ x c, X.env.cells.lookup x = some c → c ≠ b) ∧ ∀ p ∈ X.pn ++ pins, p.1 ≠ b)
    (keep : ∀ b o, b ≠ X.env.locals → b ∉ X.fs → b ∉ ch → s.heap.get? b = some o → H b = none → h'.get? b = some o)
    (slot : ∀ b o, b ≠ X.env.locals → b ∈ X.fs → b ∉ ch → s.heap.get? b = some o → H b = none → ∃ sl, h'.get? b = some { o with slots := sl }) (free : ∀ b o, b ∉ ch → s.heap.get? b = some o → H b = none → H' b = none)
    (there : ∀ b o, b ∉ ch → s.heap.get? b = some o → ∃ o', h'.get? b = some o')
    (tups : ∀ b xs, H b = some (.tup xs) → H' b = some (.tup xs)) (frzs : ∀ b o u, H b = some (.frz o u) → H' b = some (.frz o u)) (tbls : ∀ b ps, H b = some (.tbl ps) → ∃ more, H' b = some (.tbl (ps ++ more)))
    (ns : ∀ m, s.heap.Ns X.env.locals m → h'.Ns X.env.locals m) (hok : HOk X.prog X.w H' h') (hg : AllBare g') :
    Inv X pins σ H' { s with heap := h', gens := g', drawn := d', toks := t' } := by
  have neL : ∀ b o, X.s_0.heap.get? b = some o → b ≠ X.env.locals := fun b o e => Nat.ne_of_lt (Nat.lt_of_lt_of_le (Heap.lt_size e) I.ok.above)
  have neC : ∀ b o, X.s_0.heap.get? b = some o → b ∉ X.ex → b ∉ ch := fun b o e hx hb => by
    rcases (hch b hb).1 with z | z
    · exact hx z
    · exact absurd (Nat.lt_of_lt_of_le (Heap.lt_size e) z) (Nat.lt_irrefl _)
  have cellK : ∀ x c, X.env.cells.lookup x = some c → ∀ v, s.heap.IsCell c v → h'.IsCell c v := fun x c e v ⟨o, ho, hd⟩ => by
    have nch : c ∉ ch := fun z => (hch c z).2.2.1 x c e rfl
    by_cases hc : c ∈ X.fs
    · obtain ⟨sl, q⟩ := slot c o (I.cne x c e) hc nch ho (I.freeC x c e)
      exact ⟨_, q, hd⟩
    · exact ⟨o, keep c o (I.cne x c e) hc nch ho (I.freeC x c e), hd⟩
  refine ⟨I.ok, I.os, hg, ⟨fun b o e n hb hx => ?_, fun b o e n hb hx => ?_, fun b o e n hx => ?_, fun b o e hx => ?_, fun b xs e => tups b xs (I.base.tups b xs e), fun b o xs e => frzs b o xs (I.base.frzs b o xs e), fun b ps e => ?_⟩, ?_, fun x c e => ?_, ?_, fun x c e => ?_, fun p hp => ?_, hok, I.len⟩
  · exact keep b o (neL b o e) hb (neC b o e hx) (I.base.keep b o e n hb hx) (I.base.free b o e n hx)
  · obtain ⟨sl, e1⟩ := I.base.slot b o e n hb hx
    obtain ⟨sl', e2⟩ := slot b _ (neL b o e) hb (neC b o e hx) e1 (I.base.free b o e n hx)
    exact ⟨sl', e2⟩
  · obtain ⟨o', e1⟩ := I.base.there b o e hx
    exact free b o' (neC b o e hx) e1 (I.base.free b o e n hx)
  · obtain ⟨o', e1⟩ := I.base.there b o e hx
    exact there b o' (neC b o e hx) e1
  · obtain ⟨m1, e1⟩ := I.base.tbls b ps e
    obtain ⟨m2, e2⟩ := tbls b _ e1
    exact ⟨m1 ++ m2, by rw [e2, Array.append_assoc]⟩
  · obtain ⟨m, hn, hl⟩ := I.loc
    refine ⟨m, ns m hn, fun i x v e1 e2 e3 => ?_⟩
    obtain ⟨u, r, l⟩ := hl i x v e1 e2 e3
    refine ⟨u, r, ?_⟩
    rcases l with l | ⟨k, c, e, z⟩
    · exact .inl l
    · exact .inr ⟨k, c, e, cellK x c e _ z⟩
  · obtain ⟨v, z⟩ := I.cell x c e
    exact ⟨v, cellK x c e v z⟩
  · obtain ⟨m, ⟨o, _, _, ho, _⟩, _⟩ := I.loc
    exact free _ o (fun z => (hch _ z).2.1 rfl) ho I.free
  · obtain ⟨v, o, ho, hd⟩ := I.cell x c e
    exact free c o (fun z => (hch c z).2.2.1 x c e rfl) ho (I.freeC x c e)
  · obtain ⟨e, n, ne, nf, d⟩ := I.pin p hp
    have nch : p.1 ∉ ch := fun z => (hch p.1 z).2.2.2 p hp rfl
    exact ⟨keep p.1 p.2 ne nf nch e n, free p.1 p.2 nch e n, ne, nf, d⟩
/-- .. where the frame's own object is kept too -/
theorem Inv.un {t' : Nat} (I : Inv X pins σ H s) (u : Un X.fs [] H H' s.heap h') (hok : HOk X.prog X.w H' h') : Inv X pins σ H' { s with heap := h', toks := t' } := by
  obtain ⟨m, ⟨o, es, ep, ho, r⟩, _⟩ := id I.loc
  obtain ⟨sl, hL⟩ := u.any ho I.free (by simp)
  exact I.step (g' := s.gens) (d' := s.drawn) (ch := []) (fun _ z => nomatch z) (fun b o _ hb _ e n => u.keep b o e n hb (by simp)) (fun b o _ hb _ e n => u.slot b o e n hb (by simp)) (fun b o _ e n => u.free b o e n (by simp)) (fun b o _ e => u.there b o e (by simp)) u.tups u.frzs u.tbls (fun m' hm => by
    obtain ⟨o', es', ep', ho', r'⟩ := hm
    rw [ho] at ho'; cases ho'
    exact ⟨_, es', ep', hL, r'⟩) hok I.bare
/-- behind a call (or a comprehension's block): the slots of this frame may have changed too, the records at ch may have turned -/
theorem Inv.call {g' : Array GenState} {t' : Nat} {d' : Drawn} {ch : List Addr} (I : Inv X pins σ H s) (u : Un (frs X.stack) ch H H' s.heap h') (hok : HOk X.prog X.w H' h') (hg : AllBare g')
    (hch : ∀ b ∈ ch, (b ∈ X.ex ∨ X.s_0.heap.objs.size ≤ b) ∧ b ≠ X.env.locals ∧ (∀ x c, X.env.cells.lookup x = some c → c ≠ b) ∧ ∀ p ∈ X.pn ++ pins, p.1 ≠ b) :
    Inv X pins σ H' { s with heap := h', gens := g', drawn := d', toks := t' } := by
  obtain ⟨m, ⟨o, es, ep, ho, r⟩, _⟩ := id I.loc
  obtain ⟨sl, hL⟩ := u.any ho I.free fun z => (hch _ z).2.1 rfl
  exact I.step (ch := ch) hch (fun b o hL hb hc e n => u.keep b o e n (fun z => (List.mem_cons.mp (I.stkSub b z)).elim hL hb) hc) (fun b o _ _ hc e n => u.any e n hc) (fun b o hc e n => u.free b o e n hc) (fun b o hc e => u.there b o e hc) u.tups u.frzs u.tbls (fun m' hm => by
    obtain ⟨o', es', ep', ho', r'⟩ := hm
    rw [ho] at ho'; cases ho'
    exact ⟨_, es', ep', hL, r'⟩) hok hg
/-- an untracked record of ours (an iterator) has turned -/
theorem Inv.turned {t' : Nat} {it : Addr} (I : Inv X pins σ H s) (k : ∀ b o, b ≠ it → s.heap.get? b = some o → h'.get? b = some o) (hn : H it = none) (hL : it ≠ X.env.locals)
    (h1 : it ∈ X.ex ∨ X.s_0.heap.objs.size ≤ it) (h2 : ∀ x c, X.env.cells.lookup x = some c → c ≠ it) (h3 : ∀ p ∈ X.pn ++ pins, p.1 ≠ it) : Inv X pins σ H { s with heap := h', toks := t' } := by
  have nit : ∀ b u, H b = some u → b ≠ it := fun b u e z => by rw [z, hn] at e; cases e
  refine I.step (g' := s.gens) (d' := s.drawn) (ch := [it]) (fun b hb => ?_) (fun b o _ _ hc e _ => k b o (fun z => hc (by simp [z])) e) (fun b o _ _ hc e _ => ⟨o.slots, k b o (fun z => hc (by simp [z])) e⟩) (fun _ _ _ _ n => n)
    (fun b o hc e => ⟨o, k b o (fun z => hc (by simp [z])) e⟩) (fun _ _ e => e) (fun _ _ _ e => e) (fun b ps e => ⟨#[], by rw [e]; simp⟩) (fun m hm => ?_) (fun b u e => ?_) I.bare
  · have e : b = it := by simpa using hb
    subst e
    exact ⟨h1, hL, h2, h3⟩
  · obtain ⟨o, es, ep, ho, r⟩ := hm
    exact ⟨o, es, ep, k _ o (Ne.symm hL) ho, r⟩
  · refine (I.hok b u e).stay (fun c v hc q => k c v ?_ q) (fun _ q => q) fun _ _ q => q
    rcases hc with z | z
    · rw [z]; exact nit b u e
    · exact nit c _ z
theorem Inv.tok (I : Inv X pins σ H s) (t : Nat) : Inv X pins σ H { s with toks := t } := I.un (h' := s.heap) (t' := t) Un.refl I.hok
/-- all objects kept -/
theorem Inv.kept {t' : Nat} (I : Inv X pins σ H s) (k : ∀ b u, s.heap.get? b = some u → h'.get? b = some u) : Inv X pins σ H { s with heap := h', toks := t' } := I.un (Un.kept k) (I.hok.kept k)
/-- a new object laid and tracked -/
theorem Inv.laid {a : Addr} {o : HO} {t' : Nat} (I : Inv X pins σ H s) (k : ∀ b u, s.heap.get? b = some u → h'.get? b = some u) (hp : s.heap.objs.size ≤ a) (new : ObjOk X.prog X.w (upd H a o) h' a o) :
    Inv X pins σ (upd H a o) { s with heap := h', toks := t' } := I.un (Un.laid k hp (I.hok.fresh hp)) (I.hok.laid k hp new)
/-- an object written -/
theorem Inv.write {x e : Addr} {o : HO} {t' : Nat} (I : Inv X pins σ H s) (mu : Mut (H x)) (he : e = x ∨ H e = some (.own x)) (k : ∀ b u, b ≠ e → s.heap.get? b = some u → h'.get? b = some u) (heo : ∃ u, h'.get? e = some u)
    (new : ObjOk X.prog X.w (upd H x o) h' x o) : Inv X pins σ (upd H x o) { s with heap := h', toks := t' } := I.un (Un.write mu he k heo) (I.hok.write mu he k heo new)
/-- forgetting slots, pins -/
theorem Inv.weak {σ' : List (Option V)} (I : Inv X pins σ H s) (hl : σ'.length = σ.length) (w : ∀ (i : Nat) v, σ'[i]? = some (some v) → σ[i]? = some (some v)) : Inv X pins σ' H s :=
  ⟨I.ok, I.os, I.bare, I.base, let ⟨m, hn, hl'⟩ := I.loc; ⟨m, hn, fun i x v e1 e2 e3 => hl' i x v e1 (w i v e2) e3⟩, I.cell, I.free, I.freeC, I.pin, I.hok, hl.trans I.len⟩
theorem Inv.pins_of {pins' : List (Addr × Obj)} (I : Inv X pins σ H s) (h : ∀ p ∈ pins', s.heap.get? p.1 = some p.2 ∧ H p.1 = none ∧ p.1 ≠ X.env.locals ∧ p.1 ∉ X.fs ∧ ∀ v, p.2.data ≠ .cell v) : Inv X pins' σ H s :=
  ⟨I.ok, I.os, I.bare, I.base, I.loc, I.cell, I.free, I.freeC, fun p hp => (List.mem_append.mp hp).elim (fun z => I.pin p (List.mem_append_left _ z)) (h p), I.hok, I.len⟩

theorem nodup_ix {N : List Str} (hN : N.Nodup) {i j : Nat} {x : Str} (a : N[i]? = some x) (b : N[j]? = some x) : i = j := by
  obtain ⟨h1, e1⟩ := List.getElem?_eq_some_iff.mp a
  obtain ⟨h2, e2⟩ := List.getElem?_eq_some_iff.mp b
  exact (List.getElem_inj hN).mp (e1.trans e2.symm)

/-- a name is stored; what changed -/
theorem store_ok2 {M : Model} {A : Around} {E : Value → Shared → Prop} {i : Nat} {x : Str} {v : V} {u : Value} {Q : Unit → Shared → Prop} (I : Inv X pins σ H s) (hN : X.N.Nodup) (hi : X.N[i]? = some x) (hx : Loc X.env.scope x) (r : RelV v u)
    (h : ∀ s', Inv X pins (σ.set i (some v)) H s' → (∃ a, Heap.SameBut a s.heap s'.heap ∧ (a = X.env.locals ∨ X.env.cells.lookup x = some a)) → Q () s') (hf : X.fn x = true ∨ X.env.scope.names.lookup x = some .local := by first | exact .inl rfl | exact .inr rfl | assumption) : wpAny M A (storeName X.env x u) Q E s := by
  obtain ⟨m, hn, hl⟩ := id I.loc
  have hcls : (X.env.scope.kind == .class || (X.env.scope.kind == .module && X.env.locals != X.env.globals)) = false := by rw [I.ok.kind]; rfl
  have hiσ : i < σ.length := by rw [I.len]; exact (List.getElem?_eq_some_iff.mp hi).1
  have cne := I.cne
  have tracked : ∀ {a : Addr} {h' : Heap}, (∃ o, s.heap.get? a = some o ∧ H a = none) → Heap.SameBut a s.heap h' → HOk X.prog X.w H h' := fun {a h'} ha hs b ob e => by
    obtain ⟨_, _, hfree⟩ := ha
    refine (I.hok b ob e).stay (fun c w' hc q => (hs.2 c ?_).trans q) (fun _ q => q) fun _ _ q => q
    rintro rfl
    rcases hc with rfl | hc
    · rw [hfree] at e; cases e
    · rw [hfree] at hc; cases hc
  rcases hx with hk | hk
  · refine wpAny_storeName_local hk hn (fun h' hn' hs => ?_) hcls
    obtain ⟨oL, _, _, hoL, _⟩ := id hn
    refine h _ ⟨I.ok, I.os, I.bare, ⟨fun b o e n hb hx => ?_, fun b o e n hb hx => ?_, I.base.free, fun b o e hx => ?_, I.base.tups, I.base.frzs, I.base.tbls⟩, ⟨_, hn', fun j y v' e1 e2 e3 => ?_⟩, fun y c e => ?_, I.free, I.freeC, fun p hp => ?_, tracked ⟨oL, hoL, I.free⟩ hs, by simpa using I.len⟩ ⟨_, hs, .inl rfl⟩
    · exact (hs.2 b (Nat.ne_of_lt (Nat.lt_of_lt_of_le (Heap.lt_size e) I.ok.above))).trans (I.base.keep b o e n hb hx)
    · obtain ⟨sl, e1⟩ := I.base.slot b o e n hb hx
      exact ⟨sl, (hs.2 b (Nat.ne_of_lt (Nat.lt_of_lt_of_le (Heap.lt_size e) I.ok.above))).trans e1⟩
    · obtain ⟨o', e1⟩ := I.base.there b o e hx
      exact ⟨o', (hs.2 b (Nat.ne_of_lt (Nat.lt_of_lt_of_le (Heap.lt_size e) I.ok.above))).trans e1⟩
    · by_cases hj : j = i
      · subst hj
        rw [hi] at e1; cases e1
        rw [List.getElem?_set_self hiσ] at e2
        cases e2
        exact ⟨u, r, .inl ⟨hk, by simp⟩⟩
      · rw [List.getElem?_set_ne (Ne.symm hj)] at e2
        obtain ⟨u', r', q⟩ := hl j y v' e1 e2 e3
        refine ⟨u', r', ?_⟩
        rcases q with ⟨k, e⟩ | ⟨k, c, e, z⟩
        · refine .inl ⟨k, ?_⟩
          have : y ≠ x := fun e => hj (nodup_ix hN e1 (e ▸ hi))
          simp [this, e]
        · exact .inr ⟨k, c, e, z.sameBut hs (cne y c e)⟩
    · obtain ⟨w', z⟩ := I.cell y c e
      exact ⟨w', z.sameBut hs (cne y c e)⟩
    · obtain ⟨e, n, ne, nf, d⟩ := I.pin p hp
      exact ⟨(hs.2 p.1 ne).trans e, n, ne, nf, d⟩
  · have hfn : X.fn x = true := by
      rcases hf with z | z
      · exact z
      · rw [z] at hk; cases hk
    obtain ⟨c, hc⟩ := I.ok.has x (.inl hk)
    obtain ⟨w', z⟩ := I.cell x c hc
    refine wpAny_storeName_cell I.ok.kind hk hc z (fun h' hc' hs => ?_)
    obtain ⟨oc, hoc, hocd⟩ := id z
    refine h { s with heap := h' } ⟨I.ok, I.os, I.bare, ⟨fun b o e n hb hx => ?_, fun b o e n hb hx => ?_, I.base.free, fun b o e hx => ?_, I.base.tups, I.base.frzs, I.base.tbls⟩, ⟨m, hn.sameBut hs (Ne.symm (cne x c hc)), fun j y v' e1 e2 e3 => ?_⟩, fun y c' e => ?_, I.free, I.freeC, fun p hp => ?_, tracked ⟨oc, hoc, I.freeC x c hc⟩ hs, by simpa using I.len⟩ ⟨c, hs, .inr hc⟩
    · exact (hs.2 b (Nat.ne_of_lt (Nat.lt_of_lt_of_le (Heap.lt_size e) (I.ok.cab x c hfn hc)))).trans (I.base.keep b o e n hb hx)
    · obtain ⟨sl, e1⟩ := I.base.slot b o e n hb hx
      exact ⟨sl, (hs.2 b (Nat.ne_of_lt (Nat.lt_of_lt_of_le (Heap.lt_size e) (I.ok.cab x c hfn hc)))).trans e1⟩
    · obtain ⟨o', e1⟩ := I.base.there b o e hx
      exact ⟨o', (hs.2 b (Nat.ne_of_lt (Nat.lt_of_lt_of_le (Heap.lt_size e) (I.ok.cab x c hfn hc)))).trans e1⟩
    · by_cases hj : j = i
      · subst hj
        rw [hi] at e1; cases e1
        rw [List.getElem?_set_self hiσ] at e2
        cases e2
        exact ⟨u, r, .inr ⟨.inl hk, c, hc, hc'⟩⟩
      · rw [List.getElem?_set_ne (Ne.symm hj)] at e2
        obtain ⟨u', r', q⟩ := hl j y v' e1 e2 e3
        refine ⟨u', r', ?_⟩
        rcases q with q | ⟨k, c', e, z'⟩
        · exact .inl q
        · refine .inr ⟨k, c', e, z'.sameBut hs ?_⟩
          rintro rfl
          exact hj (nodup_ix hN e1 (I.ok.inj _ _ _ e hc ▸ hi))
    · by_cases hcc : c' = c
      · subst hcc; exact ⟨_, hc'⟩
      · obtain ⟨w2, z2⟩ := I.cell y c' e
        exact ⟨w2, z2.sameBut hs hcc⟩
    · obtain ⟨e, n, ne, nf, d⟩ := I.pin p hp
      refine ⟨(hs.2 p.1 ?_).trans e, n, ne, nf, d⟩
      intro q
      rw [q, hoc] at e
      have q' : oc = p.2 := Option.some.inj e
      exact d w' (by rw [← q']; exact hocd)
theorem store_ok {M : Model} {A : Around} {E : Value → Shared → Prop} {i : Nat} {x : Str} {v : V} {u : Value} {Q : Unit → Shared → Prop} (I : Inv X pins σ H s) (hN : X.N.Nodup) (hi : X.N[i]? = some x) (hx : Loc X.env.scope x) (r : RelV v u)
    (h : ∀ s', Inv X pins (σ.set i (some v)) H s' → Q () s') (hf : X.fn x = true ∨ X.env.scope.names.lookup x = some .local := by first | exact .inl rfl | exact .inr rfl | assumption) : wpAny M A (storeName X.env x u) Q E s :=
  store_ok2 I hN hi hx r (fun s' I' _ => h s' I') hf
/-- behind a call or a block, the state as it is -/
theorem Inv.call' {s' : Shared} {ch : List Addr} (I : Inv X pins σ H s) (ho : s'.os = s.os) (u : Un (frs X.stack) ch H H' s.heap s'.heap) (hok : HOk X.prog X.w H' s'.heap) (hg : AllBare s'.gens)
    (hch : ∀ b ∈ ch, (b ∈ X.ex ∨ X.s_0.heap.objs.size ≤ b) ∧ b ≠ X.env.locals ∧ (∀ x c, X.env.cells.lookup x = some c → c ≠ b) ∧ ∀ p ∈ X.pn ++ pins, p.1 ≠ b) : Inv X pins σ H' s' := by
  obtain ⟨h', g', d', t', o'⟩ := s'
  have e : o' = s.os := ho
  subst e
  exact I.call (g' := g') (t' := t') (d' := d') u hok hg hch
end

/-! ### the judgements -/
/-- an exception: its class, its own dict's address (where it has one), the abstract heap behind it -/
abbrev XK := Value → Option Addr → Hp → Prop
abbrev St := List (Option V)
abbrev VK := V → Hp → Prop
/-- an expression's reading; a test's; an argument list's -/
abbrev TE := St → Hp → VK → Prop
abbrev TT := St → Hp → (Bool → Hp → Prop) → Prop
abbrev TA := St → Hp → (List V → Hp → Prop) → Prop
/-- what is wanted behind a statement -/
structure Ends where
  nx : St → Hp → Prop
  rt : VK
  bk : St → Hp → Prop := fun _ _ => False
  ct : St → Hp → Prop := fun _ _ => False
abbrev TS := Ends → St → Hp → Prop

def EP (X : Cx) (pins : List (Addr × Obj)) (σ : St) (Q : VK) (u : Value) (s' : Shared) : Prop := ∃ v H', Inv X pins σ H' s' ∧ RelV v u ∧ Q v H'
def TP (X : Cx) (pins : List (Addr × Obj)) (σ : St) (Q : Bool → Hp → Prop) (b : Bool) (s' : Shared) : Prop := ∃ H', Inv X pins σ H' s' ∧ Q b H'
def AP (X : Cx) (pins : List (Addr × Obj)) (σ : St) (Q : List V → Hp → Prop) (us : List Value) (s' : Shared) : Prop := ∃ vs H', Inv X pins σ H' s' ∧ Vals vs us ∧ Q vs H'
def SP (X : Cx) (pins : List (Addr × Obj)) (D : Ends) (f : Flow) (s' : Shared) : Prop :=
  match f with
  | .next => ∃ σ' H', Inv X pins σ' H' s' ∧ D.nx σ' H'
  | .brk => ∃ σ' H', Inv X pins σ' H' s' ∧ D.bk σ' H'
  | .cont => ∃ σ' H', Inv X pins σ' H' s' ∧ D.ct σ' H'
  | .ret u => ∃ v σ' H', Inv X pins σ' H' s' ∧ RelV v u ∧ D.rt v H'

def PE (X : Cx) (e : Expr) (t : TE) : Prop :=
  ∀ (pins : List (Addr × Obj)) (s : Shared) (σ : St) (H : Hp) (Q : VK), Inv X pins σ H s → t σ H Q → wpAny (model X.prog X.w) X.A (eval e X.env) (EP X pins σ Q) X.xe s
def PT (X : Cx) (e : Expr) (t : TT) : Prop :=
  ∀ (pins : List (Addr × Obj)) (s : Shared) (σ : St) (H : Hp) (Q : Bool → Hp → Prop), Inv X pins σ H s → t σ H Q → wpAny (model X.prog X.w) X.A (isTrue e X.env (eval e X.env)) (TP X pins σ Q) X.xe s
/-- a test whatever its 'whole' is (and, or) -/
def PW (X : Cx) (e : Expr) (t : TT) : Prop :=
  ∀ (whole : Sem Value) (pins : List (Addr × Obj)) (s : Shared) (σ : St) (H : Hp) (Q : Bool → Hp → Prop), Inv X pins σ H s → t σ H Q → wpAny (model X.prog X.w) X.A (isTrue e X.env whole) (TP X pins σ Q) X.xe s
theorem PW.pt {X : Cx} {e : Expr} {t : TT} (h : PW X e t) : PT X e t := h _
/-- an argument list (no star), from the left -/
def PA (X : Cx) (es : List Expr) (t : TA) : Prop :=
  ∀ (pos : Pos) (pins : List (Addr × Obj)) (s : Shared) (σ : St) (H : Hp) (Q : List V → Hp → Prop), Inv X pins σ H s → t σ H Q → wpAny (model X.prog X.w) X.A (spliced (backTo pos (starEach es X.env))) (AP X pins σ Q) X.xe s
def PS (X : Cx) (st : Stmt) (t : TS) : Prop :=
  ∀ (pins : List (Addr × Obj)) (s : Shared) (σ : St) (H : Hp) (D : Ends), Inv X pins σ H s → t D σ H → wpAny (model X.prog X.w) X.A (exec st X.env) (SP X pins D) X.xe s
def PSs (X : Cx) (st : List Stmt) (t : TS) : Prop :=
  ∀ (pins : List (Addr × Obj)) (s : Shared) (σ : St) (H : Hp) (D : Ends), Inv X pins σ H s → t D σ H → wpAny (model X.prog X.w) X.A (execs st X.env) (SP X pins D) X.xe s
/-- weaken the end -/
theorem thn {α : Type} {t : Sem α} {Q Q' : α → Shared → Prop} {M : Model} {A : Around} {E : Value → Shared → Prop} {s : Shared} (h : wpAny M A t Q E s) (hQ : ∀ a s, Q a s → Q' a s) : wpAny M A t Q' E s := wpAny_mono h hQ fun _ _ x => x
end L2

namespace L2
open PySem PySem.Spec PyProof.Rows
section
variable {X : Cx}

/-! ### names and constants -/
def tVar (i : Nat) : TE := fun σ H Q => ∃ v, σ[i]? = some (some v) ∧ Q v H
def tC (v : V) : TE := fun _ H Q => Q v H
theorem pe_var {i : Nat} {x : Str} {pos : Pos} (hN : X.N[i]? = some x) (hv : Vis X.env.scope x) (hd : (x == ("__debug__" : Str)) = false := by decide) (hcd : (x == ("__classdict__" : Str)) = false := by decide) : PE X (.Name x pos) (tVar i) := by
  intro pins s σ H Q I h
  obtain ⟨v, e, h⟩ := h
  obtain ⟨m, hn, hl⟩ := I.loc
  obtain ⟨u, r, l⟩ := hl i x v hN e hv
  have fin : EP X pins σ Q u s := ⟨v, H, I, r, h⟩
  rcases l with ⟨hk, hm⟩ | ⟨hk, c, hc, hcell⟩
  · exact wpAny_Name (wpAny_loadName_local I.ok.kind hk hn hm fin) hd
  · rcases hk with hk | hk
    · exact wpAny_Name (wpAny_loadName_cell I.ok.kind hk hc hcell fin) hd
    · exact wpAny_Name (wpAny_loadName_free I.ok.kind hk hc hcell fin hcd) hd
theorem pe_int {i j pos} : PE X (.Constant (.int i) j pos) (tC (.int i)) := fun _ _ _ H _ I h => wpAny_Constant_int ⟨.int i, H, I.tok _, ⟨_, rfl⟩, h⟩
theorem pe_bl {b j pos} : PE X (.Constant (.bool b) j pos) (tC (.bl b)) := fun _ _ _ H _ I h => Constant_bool ⟨.bl b, H, I, rfl, h⟩
/-- a global name of the def -/
def Gl (X : Cx) (x : Str) : Prop := X.env.kindOf x = some .globalImplicit
theorem ld_glob {E : Value → Shared → Prop} {pins : List (Addr × Obj)} {s : Shared} {σ : St} {H : Hp} {x : Str} {u : Value} {pos : Pos} {Q : Value → Shared → Prop} (I : Inv X pins σ H s) (hg : Gl X x) (hm : X.mg x = some u) (h : Q u s)
    (hd : (x == ("__debug__" : Str)) = false := by decide) : wpAny (model X.prog X.w) X.A (eval (.Name x pos) X.env) Q E s :=
  Calls.Name_function_global I.ok.kind hg (Calls.loadGlobal_global (by rw [I.ok.glob]; exact I.mod.glob.keeps I.bk) hm h) hd
theorem ld_blt {E : Value → Shared → Prop} {pins : List (Addr × Obj)} {s : Shared} {σ : St} {H : Hp} {x : Str} {u : Value} {pos : Pos} {Q : Value → Shared → Prop} (I : Inv X pins σ H s) (hg : Gl X x) (hm : X.mg x = none) (hv : bootBuiltins x = some u) (h : Q u s)
    (hn : x ≠ "__name__" := by decide) (hd : (x == ("__debug__" : Str)) = false := by decide) : wpAny (model X.prog X.w) X.A (eval (.Name x pos) X.env) Q E s := by
  obtain ⟨mb, h1, h2⟩ := I.mod.blt
  exact Calls.Name_function_global I.ok.kind hg (Calls.loadGlobal_builtin (by rw [I.ok.glob]; exact I.mod.glob.keeps I.bk) hm (by rw [I.ok.blt]; exact h1.keeps I.bk) ((h2 x hn).trans hv) h) hd
/-- a module's constant, a class, a function, as a value -/
theorem pe_glob {x : Str} {v : V} {u : Value} {pos : Pos} (hg : Gl X x) (hm : X.mg x = some u) (r : RelV v u) (hd : (x == ("__debug__" : Str)) = false := by decide) : PE X (.Name x pos) (tC v) :=
  fun _ _ _ H _ I h => ld_glob I hg hm ⟨v, H, I, r, h⟩ hd
/-! ### arithmetic -/
/-- two ints -/
def t2I (ta tb : TE) (k : Int → Int → Hp → Prop) : St → Hp → Prop := fun σ H => ta σ H fun x H1 => tb σ H1 fun y H2 => ∃ i j, x = .int i ∧ y = .int j ∧ k i j H2
def tAdd (ta tb : TE) : TE := fun σ H Q => t2I ta tb (fun i j H2 => Q (.int (i + j)) H2) σ H
def tSub (ta tb : TE) : TE := fun σ H Q => t2I ta tb (fun i j H2 => Q (.int (i - j)) H2) σ H
/-- the left factor below 2^64 -/
def tMul (ta tb : TE) : TE := fun σ H Q => t2I ta tb (fun i j H2 => (-(2 ^ 64) < i ∧ i < 2 ^ 64) ∧ Q (.int (i * j)) H2) σ H
variable {a b : Expr} {ta tb : TE} {pos : Pos}
/-! ### comparisons -/
def PC (X : Cx) (op : CmpOp) (a b : Expr) (t : TE) : Prop :=
  ∀ (pins : List (Addr × Obj)) (s : Shared) (σ : St) (H : Hp) (Q : VK), Inv X pins σ H s → t σ H Q →
    wpAny (model X.prog X.w) X.A (eval a X.env) (fun v s₁ => wpAny (model X.prog X.w) X.A (eval b X.env) (fun u s₂ => wpAny (model X.prog X.w) X.A (compareOp op v u) (EP X pins σ Q) X.xe s₂) X.xe s₁) X.xe s
def tCmp (p : Int → Int → Bool) (ta tb : TE) : TE := fun σ H Q => t2I ta tb (fun i j H2 => Q (.bl (p i j)) H2) σ H
abbrev tLt : TE → TE → TE := tCmp fun i j => decide (i < j)
abbrev tLe : TE → TE → TE := tCmp fun i j => decide (i ≤ j)
abbrev tGt : TE → TE → TE := tCmp fun i j => decide (j < i)
abbrev tGe : TE → TE → TE := tCmp fun i j => decide (j ≤ i)
abbrev tEqI : TE → TE → TE := tCmp fun i j => decide (i = j)
abbrev tNeI : TE → TE → TE := tCmp fun i j => !decide (i = j)
/-- is None -/
def tIsN (ta : TE) : TE := fun σ H Q => ta σ H fun x H1 => Q (.bl (decide (x = .non))) H1
def tNotN (ta : TE) : TE := fun σ H Q => ta σ H fun x H1 => Q (.bl (!decide (x = .non))) H1
/-- a comparison as a value, as a test -/
def tB (t : TE) : TT := fun σ H Q => t σ H fun x H1 => ∃ c, x = .bl c ∧ Q c H1
/-- an expression whose value is a bool, as a test -/
theorem pt_val {e : Expr} {t : TE} (h : PE X e t) (he : ∀ whole, isTrue e X.env whole = (do let v ← whole; standAt e.pos; holding [v] (truthy v)) := by intro _; rfl) : PT X e (tB t) := by
  intro pins s σ H Q I hw
  refine isTrue_plain (thn (h pins s σ H _ I hw) fun v s1 ⟨x, H1, I1, r1, q1⟩ => ?_) (he _)
  obtain ⟨d, rfl, q⟩ := q1
  cases r1
  exact wpAny_truthy_bool ⟨H1, I1, q⟩

/-! ### and, or, not -/
variable {tA tB' : TT} {rest : List Expr}
def tAnd (t u : TT) : TT := fun σ H Q => t σ H fun c H1 => if c = true then u σ H1 Q else Q false H1
def tOr (t u : TT) : TT := fun σ H Q => t σ H fun c H1 => if c = true then Q true H1 else u σ H1 Q
def tNot (t : TT) : TT := fun σ H Q => t σ H fun c H1 => Q (!c) H1
theorem pw_and1 (ha : PT X a tA) : PW X (.BoolOp .And [a] pos) tA := by
  intro wh pins s σ H Q I h
  refine isTrue_and (thn (ha pins s σ H Q I h) fun c s1 e => ?_)
  cases c with
  | true => exact isTrue_and_nil e
  | false => exact e
theorem pw_or1 (ha : PT X a tA) : PW X (.BoolOp .Or [a] pos) tA := by
  intro wh pins s σ H Q I h
  refine isTrue_or (thn (ha pins s σ H Q I h) fun c s1 e => ?_)
  cases c with
  | false => exact isTrue_or_nil e
  | true => exact e
theorem pw_and (ha : PT X a tA) (hb : PW X (.BoolOp .And (b :: rest) pos) tB') : PW X (.BoolOp .And (a :: b :: rest) pos) (tAnd tA tB') := by
  intro wh pins s σ H Q I h
  refine isTrue_and (thn (ha pins s σ H _ I h) fun c s1 ⟨H1, I1, q1⟩ => ?_)
  cases c with
  | true => exact hb wh pins s1 σ H1 Q I1 q1
  | false => exact ⟨H1, I1, q1⟩
theorem pw_or (ha : PT X a tA) (hb : PW X (.BoolOp .Or (b :: rest) pos) tB') : PW X (.BoolOp .Or (a :: b :: rest) pos) (tOr tA tB') := by
  intro wh pins s σ H Q I h
  refine isTrue_or (thn (ha pins s σ H _ I h) fun c s1 ⟨H1, I1, q1⟩ => ?_)
  cases c with
  | true => exact ⟨H1, I1, q1⟩
  | false => exact hb wh pins s1 σ H1 Q I1 q1
theorem pt_not (ha : PT X a tA) : PT X (.UnaryOp .Not a pos) (tNot tA) := by
  intro pins s σ H Q I h
  exact isTrue_not (ha pins s σ H (fun c H1 => Q (!c) H1) I h)
/-- .. as values (bools) -/
def tAndV (ta tb : TE) : TE := fun σ H Q => ta σ H fun x H1 => ∃ c, x = .bl c ∧ if c = true then tb σ H1 Q else Q (.bl false) H1
def tOrV (ta tb : TE) : TE := fun σ H Q => ta σ H fun x H1 => ∃ c, x = .bl c ∧ if c = true then Q (.bl true) H1 else tb σ H1 Q
def tNotV (ta : TE) : TE := fun σ H Q => ta σ H fun x H1 => ∃ c, x = .bl c ∧ Q (.bl (!c)) H1
theorem pe_one {op} {t : TE} (h : PE X a t) : PE X (.BoolOp op [a] pos) t := fun pins s σ H Q I hw => BoolOp_one (h pins s σ H Q I hw)
theorem pe_and (ha : PE X a ta) (hb : PE X (.BoolOp .And (b :: rest) pos) tb) : PE X (.BoolOp .And (a :: b :: rest) pos) (tAndV ta tb) := by
  intro pins s σ H Q I h
  refine BoolOp_and (thn (ha pins s σ H _ I h) fun v s1 ⟨x, H1, I1, r1, q1⟩ => ?_)
  obtain ⟨c, rfl, q1⟩ := q1
  cases r1
  refine wpAny_truthy_bool ?_
  cases c with
  | true => exact hb pins s1 σ H1 Q I1 q1
  | false => exact ⟨.bl false, H1, I1, rfl, q1⟩
/-- a if t else b -/
def tIf (t : TT) (ta tb : TE) : TE := fun σ H Q => t σ H fun c H1 => if c = true then ta σ H1 Q else tb σ H1 Q
end
end L2

namespace L2
open PySem PySem.Spec PyProof.Rows

/-! ### a list, a tuple that is read: tracked, frozen, or an object of the module -/
def SqL (K : PySem.W.Frag) (H : Hp) (a : Addr) (xs : List V) : Prop :=
  Rd H a (.lst xs) ∨
    ∃ (o : Obj) (its : Array Value) (n : Nat), K.lookup a = some o ∧ o.cls = .type "list" ∧ o.dict = none ∧ o.data = .seq its n ∧ its.size ≤ sizeLine ∧ Vals xs its.toList
def SqT (K : PySem.W.Frag) (H : Hp) (a : Addr) (xs : List V) : Prop :=
  Rd H a (.tup xs) ∨
    ∃ (o : Obj) (its : Array Value) (n : Nat), K.lookup a = some o ∧ o.cls = .type "tuple" ∧ o.data = .seq its n ∧ its.size ≤ sizeLine ∧ Vals xs its.toList
def absV : Value → Option V
  | .none => some .non
  | .bool b => some (.bl b)
  | .int i _ => some (.int i)
  | .str x _ => some (.str x)
  | .bytes b _ => some (.byt b)
  | .float b _ => some (.flt b)
  | .ref a => some (.ref a)
  | .type n => some (.ty n)
  | _ => none
theorem RelV.abs {x : V} {u : Value} (r : RelV x u) : absV u = some x := by
  cases x with
  | non => cases r; rfl
  | bl _ => cases r; rfl
  | int _ => obtain ⟨t, rfl⟩ := r; rfl
  | str _ => obtain ⟨t, rfl⟩ := r; rfl
  | byt _ => obtain ⟨t, rfl⟩ := r; rfl
  | flt _ => obtain ⟨t, rfl⟩ := r; rfl
  | ref _ => cases r; rfl
  | ty _ => cases r; rfl
theorem RelV.inj {x y : V} {u : Value} (r : RelV x u) (q : RelV y u) : x = y := Option.some.inj (r.abs.symm.trans q.abs)
theorem Vals.inj : ∀ {xs ys : List V} {us : List Value}, Vals xs us → Vals ys us → xs = ys
  | _, _, _, .nil, .nil => rfl
  | _, _, _, .cons r t, .cons r' t' => by rw [r.inj r', Vals.inj t t']
section
variable {X : Cx} {pins : List (Addr × Obj)} {σ : St} {H : Hp} {s : Shared} {a : Addr} {xs ys : List V}
theorem SqL.of {K : PySem.W.Frag} (h : H a = some (.lst xs)) : SqL K H a xs := .inl (.inl h)
theorem Inv.list (I : Inv X pins σ H s) (h : SqL X.K H a xs) : ∃ its : List Value, Vals xs its ∧ PlainL s.heap a its.toArray ∧ xs.length ≤ sizeLine := by
  rcases h with h | ⟨o, its, n, hk, hc, hd, hs, hz, r⟩
  · obtain ⟨z, its, n, r, e⟩ := h.ok I.hok
    exact ⟨its, r, ⟨_, n, e, rfl, rfl, rfl⟩, z⟩
  · refine ⟨its.toList, r, ⟨o, n, I.kIn a o hk, hc, hd, by simpa using hs⟩, ?_⟩
    have e := r.length
    simp only [Array.length_toList] at e
    omega
theorem Inv.tuple (I : Inv X pins σ H s) (h : SqT X.K H a xs) : ∃ its : List Value, Vals xs its ∧ IsTup s.heap a its.toArray ∧ xs.length ≤ sizeLine := by
  rcases h with h | ⟨o, its, n, hk, hc, hs, hz, r⟩
  · obtain ⟨z, its, r, p⟩ := h.ok I.hok
    exact ⟨its, r, p, z⟩
  · refine ⟨its.toList, r, ⟨o, I.kIn a o hk, hc, n, by simpa using hs⟩, ?_⟩
    have e := r.length
    simp only [Array.length_toList] at e
    omega
theorem Inv.list_inj (I : Inv X pins σ H s) (h : SqL X.K H a xs) (h' : SqL X.K H a ys) : xs = ys := by
  obtain ⟨its, r, ⟨o, n, e, _, _, d⟩, _⟩ := I.list h
  obtain ⟨its', r', ⟨o', n', e', _, _, d'⟩, _⟩ := I.list h'
  rw [e] at e'; cases e'
  rw [d] at d'
  injection d' with d1 _
  have : its = its' := by simpa using congrArg Array.toList d1
  subst this
  exact r.inj r'
end

/-! ### another wish about exceptions -/
abbrev Cx.wish (X : Cx) (E : Value → Shared → Prop) : Cx := { X with xe := E }
/-- no exception leaves -/
abbrev Cx.nox (X : Cx) : Cx := X.wish fun _ _ => False
theorem Cx.Ok.wish {X : Cx} (ok : X.Ok) (E : Value → Shared → Prop) : (X.wish E).Ok :=
  ⟨ok.mod, ok.kind, ok.glob, ok.blt, ok.above, ok.inj, ok.has, ok.cab, ok.hd, ok.frames, ok.stk, ok.exf, ok.bs, ok.bsz, ok.noex, ok.exfs, ok.funs, ok.frf⟩
theorem Cx.Ok.unwish {X : Cx} {E : Value → Shared → Prop} (ok : (X.wish E).Ok) : X.Ok :=
  ⟨ok.mod, ok.kind, ok.glob, ok.blt, ok.above, ok.inj, ok.has, ok.cab, ok.hd, ok.frames, ok.stk, ok.exf, ok.bs, ok.bsz, ok.noex, ok.exfs, ok.funs, ok.frf⟩
section
variable {X : Cx} {pins : List (Addr × Obj)} {σ : St} {H : Hp} {s : Shared} {E : Value → Shared → Prop}
theorem Inv.wish (I : Inv X pins σ H s) (E : Value → Shared → Prop) : Inv (X.wish E) pins σ H s := ⟨I.ok.wish E, I.os, I.bare, I.base, I.loc, I.cell, I.free, I.freeC, I.pin, I.hok, I.len⟩
theorem Inv.unwish (I : Inv (X.wish E) pins σ H s) : Inv X pins σ H s := ⟨I.ok.unwish, I.os, I.bare, I.base, I.loc, I.cell, I.free, I.freeC, I.pin, I.hok, I.len⟩
theorem SP.unwish {D : Ends} {f : Flow} {s' : Shared} (h : SP (X.wish E) pins D f s') : SP X pins D f s' := by
  cases f with
  | next => obtain ⟨σ', H', I, q⟩ := h; exact ⟨σ', H', I.unwish, q⟩
  | brk => obtain ⟨σ', H', I, q⟩ := h; exact ⟨σ', H', I.unwish, q⟩
  | cont => obtain ⟨σ', H', I, q⟩ := h; exact ⟨σ', H', I.unwish, q⟩
  | ret u => obtain ⟨v, σ', H', I, r, q⟩ := h; exact ⟨v, σ', H', I.unwish, r, q⟩
theorem PSs.nox {st : List Stmt} {t : TS} (h : PSs X.nox st t) : PSs X st t := fun pins s σ H D I hw =>
  wpAny_mono (h pins s σ H D (I.wish _) hw) (fun _ _ q => q.unwish) fun _ _ z => False.elim z
end

/-! ### blocks and small statements -/
section
variable {X : Cx} {st : Stmt} {rest : List Stmt} {t u : TS} {e : Expr} {te : TE} {pos : Pos}
def tNext : TS := fun D σ H => D.nx σ H
def tSeq (t u : TS) : TS := fun D σ H => t { D with nx := u D } σ H
theorem pss_nil : PSs X [] tNext := fun _ _ σ H _ I h => wpAny_execs_nil ⟨σ, H, I, h⟩
theorem pss_cons (h1 : PS X st t) (h2 : PSs X rest u) : PSs X (st :: rest) (tSeq t u) := by
  intro pins s σ H D I h
  refine wpAny_execs_cons (thn (h1 pins s σ H { D with nx := u D } I h) fun f s1 q => ?_)
  cases f with
  | next =>
    obtain ⟨σ', H', I', q⟩ := q
    exact h2 pins s1 σ' H' D I' q
  | ret v => exact q
  | brk => exact q
  | cont => exact q
theorem pss_one (h1 : PS X st t) : PSs X [st] t := by
  intro pins s σ H D I h
  refine wpAny_execs_cons (thn (h1 pins s σ H D I h) fun f s1 q => ?_)
  cases f with
  | next => exact wpAny_execs_nil q
  | ret v => exact q
  | brk => exact q
  | cont => exact q
def tBreak : TS := fun D σ H => D.bk σ H
def tCont : TS := fun D σ H => D.ct σ H
/-- in a def's body nothing is shown -/
theorem Inv.quiet {pins : List (Addr × Obj)} {σ : St} {H : Hp} {s : Shared} (I : Inv X pins σ H s) : interactive X.env = false := by simp [interactive, I.ok.kind]
/-- an expression whose value is dropped -/
def tDrop (te : TE) : TS := fun D σ H => te σ H fun _ H1 => D.nx σ H1
theorem ps_expr (he : PE X e te) (hs : swapsWith e none pos.line X.env = pure false := by rfl) : PS X (.Expr e pos) (tDrop te) := by
  intro pins s σ H D I h
  exact wpAny_Expr_any (thn (he pins s σ H _ I h) fun v s1 ⟨x, H1, I1, r1, q1⟩ => ⟨σ, H1, I1, q1⟩) I.quiet hs
def tRet (te : TE) : TS := fun D σ H => te σ H D.rt
theorem ps_ret (he : PE X e te) : PS X (.Return (some e) pos) (tRet te) := by
  intro pins s σ H D I h
  exact wpAny_Return_some (thn (he pins s σ H _ I h) fun v s1 ⟨x, H1, I1, r1, q1⟩ => ⟨x, σ, H1, I1, r1, q1⟩)
def tRetN : TS := fun D _ H => D.rt .non H
def tIfS (c : TT) (t u : TS) : TS := fun D σ H => c σ H fun b H1 => if b = true then t D σ H1 else u D σ H1
theorem ps_if {c : Expr} {a b : List Stmt} {tc : TT} (hc : PT X c tc) (ha : PSs X a t) (hb : PSs X b u) : PS X (.If c a b pos) (tIfS tc t u) := by
  intro pins s σ H D I h
  refine wpAny_If (thn (hc pins s σ H _ I h) fun d s1 ⟨H1, I1, q1⟩ => ?_)
  cases d with
  | true => exact ha pins s1 σ H1 D I1 q1
  | false => exact hb pins s1 σ H1 D I1 q1
/-- code that the proof never comes to -/
def tNever : TS := fun _ _ _ => False
end

/-! ### targets -/
abbrev TG := V → St → Hp → (St → Hp → Prop) → Prop
abbrev TGs := List V → St → Hp → (St → Hp → Prop) → Prop
def PG (X : Cx) (target : Expr) (t : TG) : Prop :=
  ∀ (pins : List (Addr × Obj)) (s : Shared) (σ : St) (H : Hp) (v : V) (u : Value) (Q : St → Hp → Prop), Inv X pins σ H s → RelV v u → t v σ H Q →
    wpAny (model X.prog X.w) X.A (assign target X.env u) (fun _ s' => ∃ σ' H', Inv X pins σ' H' s' ∧ Q σ' H') X.xe s
/-- several targets, one after another -/
def PGs (X : Cx) (ts : List Expr) (t : TGs) : Prop :=
  ∀ (pins : List (Addr × Obj)) (s : Shared) (σ : St) (H : Hp) (vs : List V) (us : List Value) (Q : St → Hp → Prop), Inv X pins σ H s → Vals vs us → t vs σ H Q →
    wpAny (model X.prog X.w) X.A (assignInOrder ((assignEach ts X.env).map (·.2)) us) (fun _ s' => ∃ σ' H', Inv X pins σ' H' s' ∧ Q σ' H') X.xe s
/-- o[i] = v, by values -/
abbrev TSet := V → V → V → Hp → (Hp → Prop) → Prop
def PSet (X : Cx) (t : TSet) : Prop :=
  ∀ (pins : List (Addr × Obj)) (s : Shared) (σ : St) (H : Hp) (o i v : V) (ov iv u : Value) (Q : Hp → Prop), Inv X pins σ H s → RelV o ov → RelV i iv → RelV v u → t o i v H Q →
    wpAny (model X.prog X.w) X.A (setItem ov iv u) (fun _ s' => ∃ H', Inv X pins σ H' s' ∧ Q H') X.xe s
/-- a op= b, by values -/
abbrev TIp := V → V → Hp → VK → Prop
def PIp (X : Cx) (op : Operator) (t : TIp) : Prop :=
  ∀ (pins : List (Addr × Obj)) (s : Shared) (σ : St) (H : Hp) (x y : V) (v u : Value) (Q : VK), Inv X pins σ H s → RelV x v → RelV y u → t x y H Q →
    wpAny (model X.prog X.w) X.A (inplaceOp op v u) (EP X pins σ Q) X.xe s
section
variable {X : Cx} {pos : Pos}
def gName (i : Nat) : TG := fun v σ H Q => Q (σ.set i (some v)) H
theorem pg_name {i : Nat} {x : Str} (hN : X.N.Nodup) (hi : X.N[i]? = some x) (hx : Loc X.env.scope x) (hf : X.fn x = true ∨ X.env.scope.names.lookup x = some .local := by first | exact .inl rfl | exact .inr rfl | assumption) : PG X (.Name x pos) (gName i) := by
  intro pins s σ H v u Q I r h
  exact wpAny_assign_Name (store_ok I hN hi hx r (fun s' I' => ⟨_, H, I', h⟩) hf)
def gNil : TGs := fun vs σ H Q => vs = [] ∧ Q σ H
def gCons (t : TG) (u : TGs) : TGs := fun vs σ H Q => ∃ v r, vs = v :: r ∧ t v σ H fun σ' H' => u r σ' H' Q
/-- (a, b, ..) = a tuple of that length -/
def gTup (K : PySem.W.Frag) (n : Nat) (t : TGs) : TG := fun v σ H Q => ∃ a xs, v = .ref a ∧ SqT K H a xs ∧ xs.length = n ∧ t xs σ H Q
/-- o[i] = .. -/
def gSub (to ti : TE) (t : TSet) : TG := fun v σ H Q => to σ H fun o H1 => ti σ H1 fun i H2 => t o i v H2 fun H3 => Q σ H3
/-- target = value -/
def tAsg (te : TE) (g : TG) : TS := fun D σ H => te σ H fun x H1 => g x σ H1 D.nx
/-- name = value -/
theorem ps_set {i : Nat} {x : Str} {e : Expr} {te : TE} {pos' : Pos} (hN : X.N.Nodup) (hi : X.N[i]? = some x) (hx : Loc X.env.scope x) (he : PE X e te) (hs : swapsWith e (some (.Name x pos')) pos.line X.env = pure false := by rfl) (hf : X.fn x = true ∨ X.env.scope.names.lookup x = some .local := by first | exact .inl rfl | exact .inr rfl | assumption) :
    PS X (.Assign [.Name x pos'] e pos) (tAsg te (gName i)) := by
  intro pins s σ H D I h
  refine wpAny_Assign_Name (thn (he pins s σ H _ I h) fun v s1 ⟨y, H1, I1, r1, q1⟩ => ?_) hs
  exact store_ok I1 hN hi hx r1 (fun s2 I2 => ⟨_, H1, I2, q1⟩) hf
/-- a, b = x, y with plain local names: stored from the right; the pair itself is not tracked (the opening rows as in PyProof/Rows/TupAssign.lean:23) -/
def tPar (i j : Nat) (ta : TA) : TS := fun D σ H => ta σ H fun vs H1 => ∃ v w, vs = [v, w] ∧ D.nx ((σ.set i (some v)).set j (some w)) H1
/-- name op= e -/
def tAug (i : Nat) (te : TE) (ti : TIp) : TS := fun D σ H => ∃ x, σ[i]? = some (some x) ∧ te σ H fun y H1 => ti x y H1 fun z H2 => D.nx (σ.set i (some z)) H2
theorem ps_aug {i : Nat} {x : Str} {e : Expr} {te : TE} {op : Operator} {ti : TIp} {pos' : Pos} (hN : X.N.Nodup) (hi : X.N[i]? = some x) (hx : Loc X.env.scope x) (he : PE X e te) (ho : PIp X op ti) (hf : X.fn x = true ∨ X.env.scope.names.lookup x = some .local := by first | exact .inl rfl | exact .inr rfl | assumption) :
    PS X (.AugAssign (.Name x pos') op e pos) (tAug i te ti) := by
  intro pins s σ H D I h
  obtain ⟨v, e1, h⟩ := h
  obtain ⟨m, hn, hl⟩ := I.loc
  have vis : Vis X.env.scope x := by rcases hx with k | k; exact .inl k; exact .inr (.inl k)
  obtain ⟨u, r, l⟩ := hl i x v hi e1 vis
  refine wpAny_AugAssign_Name ?_
  have go : wpAny (model X.prog X.w) X.A (eval e X.env) (fun w s₂ => wpAny (model X.prog X.w) X.A (inplaceOp op u w) (fun r s₃ => wpAny (model X.prog X.w) X.A (storeName X.env x r) (fun _ => SP X pins D .next) X.xe s₃) X.xe s₂) X.xe s := by
    refine thn (he pins s σ H _ I h) fun w s1 ⟨y, H1, I1, r1, q1⟩ => ?_
    refine thn (ho pins s1 σ H1 v y u w _ I1 r r1 q1) fun z s2 ⟨zv, H2, I2, r2, q2⟩ => ?_
    exact store_ok I2 hN hi hx r2 (fun s3 I3 => ⟨_, H2, I3, q2⟩) hf
  rcases l with ⟨hk, hm⟩ | ⟨hk, c, hc, hcell⟩
  · exact wpAny_loadName_local I.ok.kind hk hn hm go
  · rcases hk with hk | hk
    · exact wpAny_loadName_cell I.ok.kind hk hc hcell go
    · rcases hx with k | k
      · have : X.env.scope.names.lookup x = some .free := hk
        rw [k] at this; cases this
      · have : X.env.scope.names.lookup x = some .free := hk
        rw [k] at this; cases this
/-- o[i] op= e -/
def tAugS (to ti te : TE) (tget : V → V → Hp → VK → Prop) (tip : TIp) (tset : TSet) : TS := fun D σ H => to σ H fun o H1 => ti σ H1 fun i H2 => tget o i H2 fun x H3 => te σ H3 fun y H4 => tip x y H4 fun z H5 => tset o i z H5 fun H6 => D.nx σ H6
/-- o[i], by values -/
def PGet (X : Cx) (t : V → V → Hp → VK → Prop) : Prop :=
  ∀ (pins : List (Addr × Obj)) (s : Shared) (σ : St) (H : Hp) (o i : V) (ov iv : Value) (Q : VK), Inv X pins σ H s → RelV o ov → RelV i iv → t o i H Q →
    wpAny (model X.prog X.w) X.A (getItem ov iv) (EP X pins σ Q) X.xe s
/-- ints -/
def ipI (f : Int → Int → Int) : TIp := fun x y H Q => ∃ i j, x = .int i ∧ y = .int j ∧ Q (.int (f i j)) H
theorem ip_add : PIp X .Add (ipI fun i j => i + j) := by
  intro pins s σ H x y v u Q I r1 r2 h
  obtain ⟨i, j, e1, e2, q⟩ := h
  subst e1; subst e2
  obtain ⟨t, rfl⟩ := r1
  obtain ⟨t', rfl⟩ := r2
  exact iadd_int ⟨.int _, H, I.tok _, ⟨_, rfl⟩, q⟩
end

/-! ### while -/
section
variable {X : Cx} {pos : Pos}
/-- the invariant W with its measure -/
def tWhile (c : TT) (tb : TS) : TS := fun D σ H => ∃ W : Nat → St → Hp → Prop, (∃ m, W m σ H) ∧ ∀ m σ H, W m σ H →
  c σ H fun b H1 => if b = true then ∃ N : St → Hp → Prop, (∀ σ' H', N σ' H' → ∃ m', m' < m ∧ W m' σ' H') ∧ tb { D with nx := N, ct := N, bk := D.nx } σ H1 else D.nx σ H1
theorem ps_while {c : Expr} {body : List Stmt} {tc : TT} {tb : TS} (hp : PassesOwn (model X.prog X.w) X.A X.env X.xe) (hc : PT X c tc) (hb : PSs X body tb) : PS X (.While c body [] pos) (tWhile tc tb) := by
  intro pins s σ H D I h
  obtain ⟨W, ⟨m0, w0⟩, turn⟩ := h
  refine wpAny_While (codeAny_whileLoop (fun n s' => ∃ σ' H', Inv X pins σ' H' s' ∧ W n σ' H') ?_ m0 ⟨σ, H, I, w0⟩)
  rintro n s1 ⟨σ1, H1, I1, w1⟩
  refine wpAny_passesOwn hp (thn (hc pins s1 σ1 H1 _ I1 (turn n σ1 H1 w1)) fun b s2 ⟨H2, I2, q2⟩ => ?_)
  cases b with
  | true =>
    obtain ⟨N, hN, q2⟩ := q2
    rw [if_pos rfl]
    refine wpAny_passesOwn hp (thn (hb pins s2 σ1 H2 _ I2 q2) fun f s3 q3 => ?_)
    cases f with
    | next =>
      obtain ⟨σ3, H3, I3, n3⟩ := q3
      obtain ⟨m', hm, w3⟩ := hN σ3 H3 n3
      exact ⟨m', hm, σ3, H3, I3, w3⟩
    | cont =>
      obtain ⟨σ3, H3, I3, n3⟩ := q3
      obtain ⟨m', hm, w3⟩ := hN σ3 H3 n3
      exact ⟨m', hm, σ3, H3, I3, w3⟩
    | brk => exact q3
    | ret v => exact q3
  | false =>
    rw [if_neg Bool.false_ne_true]
    exact wpAny_execs_nil ⟨σ1, H2, I2, q2⟩
end

/-! ### what a loop or a comprehension walks -/
/-- at turn i: it yields x (the heap may grow), or it stops -/
structure It where
  go : Nat → Hp → Prop
  yld : Nat → Hp → V → Hp → Prop
  stop : Nat → Hp → Prop
/-- the iterator's own objects may turn: they are not the frame's, not pinned, younger than the entry (or a comprehension's own) -/
def FpOk (X : Cx) (pins : List (Addr × Obj)) (H : Hp) (b : Addr) : Prop :=
  H b = none ∧ b ≠ X.env.locals ∧ b ∉ X.fs ∧ (b ∈ X.ex ∨ X.s_0.heap.objs.size ≤ b) ∧ (∀ x c, X.env.cells.lookup x = some c → c ≠ b) ∧ ∀ p ∈ X.pn ++ pins, p.1 ≠ b
theorem Inv.fpOk {X : Cx} {pins : List (Addr × Obj)} {σ : St} {H H' : Hp} {s : Shared} {b : Addr} (I : Inv X pins σ H s) (hb : s.heap.objs.size ≤ b) (hn : H' b = none) : FpOk X pins H' b := by
  refine ⟨hn, Nat.ne_of_gt (Nat.lt_of_lt_of_le I.lt hb), I.nofs hb, .inr (Nat.le_trans I.sz hb), fun x c e z => ?_, fun p hp z => ?_⟩
  · obtain ⟨v, q⟩ := I.cell x c e
    exact absurd (Nat.lt_of_lt_of_le q.lt (by rw [z]; exact hb)) (Nat.lt_irrefl _)
  · exact absurd (Nat.lt_of_lt_of_le (Heap.lt_size (I.pin p hp).1) (by rw [z]; exact hb)) (Nat.lt_irrefl _)
structure Turn (P : Program) (w : World) (K : PySem.W.Frag) (tg : Expr) (J : It) (fp : List Addr) (it : Addr) (tn : Nat → Heap → Prop) : Prop where
  mem : it ∈ fp
  obj : ∀ i h, tn i h → ∀ b ∈ fp, ∃ o, h.get? b = some o ∧ ∀ v, o.data ≠ .cell v
  keep : ∀ i h h', tn i h → (∀ b ∈ fp, ∀ o, h.get? b = some o → h'.get? b = some o) → tn i h'
  item : ∀ (X : Cx), X.prog = P → X.w = w → X.K = K → X.calm = true → ∀ (i : Nat) (pins : List (Addr × Obj)) (s : Shared) (σ : St) (H : Hp) (E : Value → Shared → Prop), Inv X pins σ H s → (∀ b ∈ fp, FpOk X pins H b) → tn i s.heap → J.go i H →
    wpAny (model P w) X.A (pyNext (.ref it)) (fun r s1 => ∃ u, r = some u ∧
      wpAny (model P w) X.A (letOwnedTupleGo tg (.ref it) u) (fun _ s2 => ∃ x H', Inv X pins σ H' s2 ∧ RelV x u ∧ J.yld i H x H' ∧ tn (i + 1) s2.heap ∧ ∀ b ∈ fp, H' b = none) E s1) E s
  done : ∀ (X : Cx), X.prog = P → X.w = w → X.K = K → X.calm = true → ∀ (i : Nat) (pins : List (Addr × Obj)) (s : Shared) (σ : St) (H : Hp) (E : Value → Shared → Prop), Inv X pins σ H s → (∀ b ∈ fp, FpOk X pins H b) → tn i s.heap → J.stop i H →
    wpAny (model P w) X.A (pyNext (.ref it)) (fun r s1 => r = none ∧ Inv X pins σ H s1) E s
  self : ∀ (A : Around) (i : Nat) (s : Shared) (Q : Value → Shared → Prop) (E : Value → Shared → Prop), tn i s.heap → Q (.ref it) s → wpAny (model P w) A (pyIter (.ref it)) Q E s
abbrev TI := St → Hp → (It → Hp → Prop) → Prop
/-- an iterator has come -/
def PIE (X : Cx) (pins : List (Addr × Obj)) (σ : St) (tg : Expr) (R : It → Hp → Prop) (itv : Value) (s2 : Shared) : Prop :=
  ∃ (it : Addr) (fp : List Addr) (tn : Nat → Heap → Prop) (J : It) (H' : Hp), itv = .ref it ∧ Inv X pins σ H' s2 ∧ Turn X.prog X.w X.K tg J fp it tn ∧ tn 0 s2.heap ∧ (∀ b ∈ fp, FpOk X pins H' b) ∧ R J H'
def PI (X : Cx) (tg iter : Expr) (wi : TI) : Prop :=
  ∀ (pins : List (Addr × Obj)) (s : Shared) (σ : St) (H : Hp) (R : It → Hp → Prop), Inv X pins σ H s → wi σ H R →
    wpAny (model X.prog X.w) X.A (eval iter X.env) (fun v s1 => wpAny (model X.prog X.w) X.A (pyIter v) (PIE X pins σ tg R) X.xe s1) X.xe s

/-- the step ahead of the store is nothing for an iterator that keeps no tuple -/
theorem go_of {M : Model} {A : Around} {E : Value → Shared → Prop} {s : Shared} {tg : Expr} {it : Addr} {u : Value} {o : Obj} {n : String} {vs : Array Value} {Q : Unit → Shared → Prop} (ho : s.heap.get? it = some o) (hc : o.cls = .type n) (hd : o.data = .fields vs)
    (hn : ["enumerate", "zip", "dict_itemiterator", "dict_reverseitemiterator", "odict_iterator", "itertools.zip_longest", "itertools.pairwise"].contains n = false) (hQ : Q () s) : wpAny M A (letOwnedTupleGo tg (.ref it) u) Q E s := by
  unfold letOwnedTupleGo
  cases tg <;> first
    | exact wpAny_pure hQ
    | (cases u <;> first
        | exact wpAny_pure hQ
        | (refine wpAny_bind (wpAny_load ho ?_)
           rw [hc, hd]
           show wpAny M A (if (["enumerate", "zip", "dict_itemiterator", "dict_reverseitemiterator", "odict_iterator", "itertools.zip_longest", "itertools.pairwise"].contains n && vs[0]? == some (rawInt _)) = true then _ else _) Q E s
           rw [if_neg (by intro h; rw [hn, Bool.false_and] at h; cases h)]
           exact wpAny_pure hQ))

/-- the list at a, as it stands at each turn (a loop may append to it) -/
def Itl (K : PySem.W.Frag) (a : Addr) : It :=
  ⟨fun i H => ∃ xs x, SqL K H a xs ∧ xs[i]? = some x, fun i H x H' => H' = H ∧ ∀ xs, SqL K H a xs → xs[i]? = some x, fun i H => ∃ xs, SqL K H a xs ∧ xs.length ≤ i⟩
def Itt (K : PySem.W.Frag) (a : Addr) : It :=
  ⟨fun i H => ∃ xs x, SqT K H a xs ∧ xs[i]? = some x, fun i H x H' => H' = H ∧ ∀ xs, SqT K H a xs → xs[i]? = some x, fun i H => ∃ xs, SqT K H a xs ∧ xs.length ≤ i⟩
/-- lo, lo + 1, .. (n of them) -/
def Itr (lo : Int) (n : Nat) : It := ⟨fun i _ => i < n, fun i H x H' => H' = H ∧ x = .int (lo + i), fun i _ => n ≤ i⟩
theorem turn_list {P : Program} {w : World} {K : PySem.W.Frag} {tg : Expr} (a it : Addr) : Turn P w K tg (Itl K a) [it] it (fun i h => h.IsListIter it a i) where
  mem := by simp
  obj := fun i h st b hb => by
    have e : b = it := by simpa using hb
    subst e
    obtain ⟨o, e, c, d⟩ := st
    exact ⟨o, e, fun v z => by rw [d] at z; cases z⟩
  keep := fun i h h' st k => st.at fun o e => k it (by simp) o e
  item := by
    intro X hP hw hK hc i pins s σ H E I hf st hg
    subst hP hw hK
    obtain ⟨xs, x, hq, hx⟩ := hg
    obtain ⟨its, rv, p, hz⟩ := I.list hq
    obtain ⟨u, hu, ru⟩ := rv.get hx
    obtain ⟨f0, f1, f2, f3, f4, f5⟩ := hf it (by simp)
    refine wpAny_pyNext_list_item st p.isList (x := u) (by simpa using hu) fun h' st' sb => ?_
    have I1 : Inv X pins σ H { s with heap := h' } := I.turned (t' := s.toks) (fun b o hb e => (sb.2 b hb).trans e) f0 f1 f3 f4 f5
    obtain ⟨o, e, c, d⟩ := id st'
    exact ⟨u, rfl, go_of (s := { s with heap := h' }) e c d (by decide) ⟨x, H, I1, ru, ⟨rfl, fun ys hy => by rw [I.list_inj hy hq]; exact hx⟩, st', fun b hb => (hf b hb).1⟩⟩
  done := by
    intro X hP hw hK hc i pins s σ H E I hf st hg
    subst hP hw hK
    obtain ⟨xs, hq, hx⟩ := hg
    obtain ⟨its, rv, p, hz⟩ := I.list hq
    obtain ⟨f0, f1, f2, f3, f4, f5⟩ := hf it (by simp)
    have hl := rv.length
    exact wpAny_pyNext_list_end (I.ok.hd hc) st p.isList (by simp; omega) fun h' eb => ⟨rfl, I.turned (t' := s.toks) (fun b o hb e => eb b o hb e) f0 f1 f3 f4 f5⟩
  self := fun _ _ _ _ _ st h => wpAny_pyIter_listiter st h
theorem turn_range {P : Program} {w : World} {K : PySem.W.Frag} {tg : Expr} (it : Addr) (lo : Int) (n : Nat) : Turn P w K tg (Itr lo n) [it] it (fun i h => IsRangeIter h it (lo + (i : Nat) * 1) ((n : Int) - (i : Nat)) 1) where
  mem := by simp
  obj := fun i h st b hb => by
    have e : b = it := by simpa using hb
    subst e
    exact ⟨_, st, fun v z => by
      have z' : Data.fields _ = Data.cell v := z
      cases z'⟩
  keep := fun i h h' st k => k it (by simp) _ st
  item := by
    intro X hP hw hK hc i pins s σ H E I hf st hg
    subst hP hw hK
    obtain ⟨f0, f1, f2, f3, f4, f5⟩ := hf it (by simp)
    have W := Walks.range (prog := X.prog) (w := X.w) (I.ok.hd hc) it lo 1 n
    refine W.item i s _ _ hg st fun v h' tk hv st' kk => ?_
    obtain ⟨t, rfl⟩ := hv
    have I1 : Inv X pins σ H { s with heap := h', toks := tk } := I.turned (fun b o hb e => kk b o (by simpa using hb) e) f0 f1 f3 f4 f5
    refine ⟨_, rfl, go_of (s := { s with heap := h', toks := tk }) (n := "range_iterator") st' rfl rfl (by decide) ⟨.int (lo + i), H, I1, ⟨t, ?_⟩, ⟨rfl, rfl⟩, st', fun b hb => (hf b hb).1⟩⟩
    rw [Int.mul_one]
  done := by
    intro X hP hw hK hc i pins s σ H E I hf st hg
    subst hP hw hK
    obtain ⟨f0, f1, f2, f3, f4, f5⟩ := hf it (by simp)
    exact wpAny_pyNext_range_end (I.ok.hd hc) st (by have : n ≤ i := hg; omega) fun h' eb => ⟨rfl, I.turned (t' := s.toks) (fun b o hb e => eb b o hb e) f0 f1 f3 f4 f5⟩
  self := fun _ _ _ _ _ st h => wpAny_pyIter_rangeiter st h
end L2

namespace L2
open PySem PySem.Spec PyProof.Rows
section
variable {X : Cx} {tg : Expr}
def iList (K : PySem.W.Frag) (tl : TE) : TI := fun σ H R => tl σ H fun x H1 => ∃ a, x = .ref a ∧ (∃ xs, SqL K H1 a xs) ∧ R (Itl K a) H1
def iTup (K : PySem.W.Frag) (tl : TE) : TI := fun σ H R => tl σ H fun x H1 => ∃ a, x = .ref a ∧ (∃ xs, SqT K H1 a xs) ∧ R (Itt K a) H1
theorem pi_list {l : Expr} {tl : TE} (hl : PE X l tl) : PI X tg l (iList X.K tl) := by
  intro pins s σ H R I h
  refine thn (hl pins s σ H _ I h) fun v s1 ⟨x, H1, I1, r1, q1⟩ => ?_
  obtain ⟨a, e, ⟨xs, hq⟩, q⟩ := q1
  subst e
  cases r1
  obtain ⟨its, rv, p, hz⟩ := I1.list hq
  refine wpAny_pyIter_list p.isList ?_
  refine ⟨s1.heap.objs.size, [s1.heap.objs.size], _, _, H1, rfl, I1.kept (t' := s1.toks) fun b o e => Heap.get?_push_of_some _ e, turn_list a _, ⟨_, Heap.get?_push_size _ rfl, rfl, rfl⟩, fun b hb => ?_, q⟩
  have e : b = s1.heap.objs.size := by simpa using hb
  subst e
  exact I1.fpOk (Nat.le_refl _) (I1.hok.fresh (Nat.le_refl _))
/-- a range object just made, walked -/
theorem range_it {pins : List (Addr × Obj)} {σ : St} {H : Hp} {s : Shared} {R : It → Hp → Prop} {E : Value → Shared → Prop} {lo hi : Int} {t u v : Tok} {tk : Nat} (I : Inv X pins σ H s) (h1 : -(2 ^ 62) ≤ lo) (h2 : lo < 2 ^ 62) (h3 : -(2 ^ 62) ≤ hi) (h4 : hi < 2 ^ 62)
    (q : R (Itr lo (hi - lo).toNat) H) : wpAny (model X.prog X.w) X.A (pyIter (.ref s.heap.objs.size)) (PIE X pins σ tg R) E { s with heap := s.heap.push { cls := .type "range", data := .fields #[.int lo t, .int hi u, .int 1 v] }, toks := tk } := by
  refine wpAny_pyIter_range (IsRange.new ..) (small_one h1 h2 h3 h4) ?_
  have I1 : Inv X pins σ H { s with heap := s.heap.push { cls := .type "range", data := .fields #[.int lo t, .int hi u, .int 1 v] }, toks := tk } := I.kept fun b o e => Heap.get?_push_of_some _ e
  refine ⟨(s.heap.push { cls := .type "range", data := .fields #[.int lo t, .int hi u, .int 1 v] }).objs.size, [(s.heap.push { cls := .type "range", data := .fields #[.int lo t, .int hi u, .int 1 v] }).objs.size], _, _, H, rfl,
    I1.kept (t' := tk) fun b o e => Heap.get?_push_of_some _ e, turn_range _ lo (hi - lo).toNat, ?_, fun b hb => ?_, q⟩
  · have e1 : lo + ((0 : Nat) : Int) * 1 = lo := by simp
    have e2 : (((hi - lo).toNat : Nat) : Int) - ((0 : Nat) : Int) = Builtin.Range.rangeSize lo hi 1 := by rw [rangeSize_one]; split <;> omega
    show IsRangeIter _ _ (lo + ((0 : Nat) : Int) * 1) ((((hi - lo).toNat : Nat) : Int) - ((0 : Nat) : Int)) 1
    rw [e1, e2]
    exact Heap.get?_push_size _ rfl
  · have e : b = (s.heap.push { cls := .type "range", data := .fields #[.int lo t, .int hi u, .int 1 v] }).objs.size := by simpa using hb
    subst e
    exact I1.fpOk (Nat.le_refl _) (I1.hok.fresh (Nat.le_refl _))
def iRng1 (ta : TA) : TI := fun σ H R => ta σ H fun vs H1 => ∃ j : Int, vs = [.int j] ∧ -(2 ^ 62) ≤ j ∧ j < 2 ^ 62 ∧ R (Itr 0 j.toNat) H1
def iRng2 (ta : TA) : TI := fun σ H R => ta σ H fun vs H1 => ∃ i j : Int, vs = [.int i, .int j] ∧ (-(2 ^ 62) ≤ i ∧ i < 2 ^ 62 ∧ -(2 ^ 62) ≤ j ∧ j < 2 ^ 62) ∧ R (Itr i (j - i).toNat) H1
theorem pi_range1 {a : Expr} {ta : TA} {p pos : Pos} (hg : Gl X "range") (hm : X.mg "range" = none) (ha : PA X [a] ta) (hs : starEach [a] X.env = [(false, eval a X.env)] := by rfl) : PI X tg (.Call (.Name "range" p) [a] [] pos) (iRng1 ta) := by
  intro pins s σ H R I h
  refine Call_ (ld_blt I hg hm boot_range (PyProof.Rows.callWith_type1 (thn (ha pos pins s σ H _ I h) fun us s1 ⟨vs, H1, I1, r1, q1⟩ => ?_) hs rfl))
  obtain ⟨j, e, q1, q2, q⟩ := q1
  subst e
  cases r1 with
  | cons r rr =>
    cases rr
    obtain ⟨t, rfl⟩ := r
    exact call_range_1 (range_it I1 (by omega) (by omega) q1 q2 (by simpa using q))
theorem pi_range2 {a b : Expr} {ta : TA} {p pos : Pos} (hg : Gl X "range") (hm : X.mg "range" = none) (ha : PA X [a, b] ta) (hs : starEach [a, b] X.env = [(false, eval a X.env), (false, eval b X.env)] := by rfl) (hs2 : starEach [b] X.env = [(false, eval b X.env)] := by rfl) :
    PI X tg (.Call (.Name "range" p) [a, b] [] pos) (iRng2 ta) := by
  intro pins s σ H R I h
  refine Call_ (ld_blt I hg hm boot_range (PyProof.Rows.callWith_type1 (thn (ha pos pins s σ H _ I h) fun us s1 ⟨vs, H1, I1, r1, q1⟩ => ?_) (by rw [hs, hs2]) (by rw [hs2]; rfl)))
  obtain ⟨i, j, e, ⟨q1, q2, q3, q4⟩, q⟩ := q1
  subst e
  cases r1 with
  | cons r rr =>
    cases rr with
    | cons r' rr =>
      cases rr
      obtain ⟨t, rfl⟩ := r
      obtain ⟨t', rfl⟩ := r'
      exact call_range_2 (range_it I1 q1 q2 q3 q4 q)

/-! ### for -/
/-- W: the invariant by the turn and a measure; N: what the body is to reach -/
def tFor (wi : TI) (g : TG) (tb : TS) : TS := fun D σ H => wi σ H fun J H1 => ∃ W : Nat → Nat → St → Hp → Prop, (∃ m, W 0 m σ H1) ∧ ∀ i m σ H, W i m σ H →
  (J.stop i H ∧ D.nx σ H) ∨ (J.go i H ∧ ∃ N : St → Hp → Prop, (∀ σ' H', N σ' H' → ∃ m', m' < m ∧ W (i + 1) m' σ' H') ∧ ∀ x H', J.yld i H x H' → g x σ H' fun σ2 H2 => tb { D with nx := N, ct := N, bk := D.nx } σ2 H2)
/-- the records at fp as they stand -/
def pinsAt (fp : List Addr) (h : Heap) : List (Addr × Obj) := fp.filterMap fun b => (h.get? b).map fun o => (b, o)
theorem mem_pinsAt {fp : List Addr} {h : Heap} {b : Addr} {o : Obj} (hb : b ∈ fp) (e : h.get? b = some o) : (b, o) ∈ pinsAt fp h := List.mem_filterMap.mpr ⟨b, hb, by rw [e]; rfl⟩
theorem of_pinsAt {fp : List Addr} {h : Heap} {p : Addr × Obj} (hp : p ∈ pinsAt fp h) : p.1 ∈ fp ∧ h.get? p.1 = some p.2 := by
  obtain ⟨b, hb, e⟩ := List.mem_filterMap.mp hp
  cases q : h.get? b with
  | none => rw [q] at e; cases e
  | some o =>
    rw [q] at e
    have e' : (b, o) = p := Option.some.inj e
    subst e'
    exact ⟨hb, q⟩
theorem Inv.pinned {pins : List (Addr × Obj)} {σ : St} {H : Hp} {s : Shared} {fp : List Addr} (I : Inv X pins σ H s) (hf : ∀ b ∈ fp, FpOk X pins H b) (ho : ∀ b ∈ fp, ∃ o, s.heap.get? b = some o ∧ ∀ v, o.data ≠ .cell v) : Inv X (pins ++ pinsAt fp s.heap) σ H s :=
  I.pins_of fun p hp => (List.mem_append.mp hp).elim (fun z => I.pin p (List.mem_append_right _ z)) fun z => by
    obtain ⟨hb, e⟩ := of_pinsAt z
    obtain ⟨f0, f1, f2, _⟩ := hf p.1 hb
    obtain ⟨o, e', d⟩ := ho p.1 hb
    rw [e] at e'; cases e'
    exact ⟨e, f0, f1, f2, d⟩
theorem Inv.unpinned {pins pl : List (Addr × Obj)} {σ : St} {H : Hp} {s : Shared} (I : Inv X (pins ++ pl) σ H s) : Inv X pins σ H s := I.pins_of fun p hp => I.pin p (List.mem_append_right _ (List.mem_append_left _ hp))
theorem ps_for {iter : Expr} {body : List Stmt} {wi : TI} {g : TG} {tb : TS} {pos : Pos} (hp : PassesOwn (model X.prog X.w) X.A X.env X.xe) (hc : X.calm = true) (hi : PI X tg iter wi) (hg : PG X tg g) (hb : PSs X body tb)
    (hs : ∀ x, foldedSetIterable iter X.env x = pure x := by intro _; rfl) : PS X (.For tg iter body [] pos) (tFor wi g tb) := by
  intro pins s σ H D I h
  refine wpAny_For (thn (hi pins s σ H _ I h) fun v s1 h1 => thn h1 fun itv s2 h2 => ?_) hs
  obtain ⟨it, fp, tn, J, H2, e, I2, T, st2, f2, W, ⟨m0, w0⟩, turn⟩ := h2
  subst e
  -- what stays true of the iterator's objects through the loop
  have stat : ∀ {H' : Hp}, (∀ b ∈ fp, H' b = none) → ∀ b ∈ fp, FpOk X pins H' b := fun hn b hb => ⟨hn b hb, (f2 b hb).2⟩
  refine codeAny_forLoop_any (fun n s' => ∃ i σ' H', Inv X pins σ' H' s' ∧ tn i s'.heap ∧ (∀ b ∈ fp, H' b = none) ∧ W i n σ' H') ?_ m0 ⟨0, σ, H2, I2, st2, fun b hb => (f2 b hb).1, w0⟩
  rintro n s3 ⟨i, σ3, H3, I3, st3, fr3, w3⟩
  rcases turn i n σ3 H3 w3 with ⟨stop, qn⟩ | ⟨go, N, hN, step⟩
  · refine wpAny_passesOwn hp (thn (T.done X rfl rfl rfl hc i pins s3 σ3 H3 X.xe I3 (stat fr3) st3 stop) fun r s4 ⟨hr, I4⟩ => ?_)
    subst hr
    exact wpAny_execs_nil ⟨σ3, H3, I4, qn⟩
  · refine wpAny_passesOwn hp (thn (T.item X rfl rfl rfl hc i pins s3 σ3 H3 X.xe I3 (stat fr3) st3 go) fun r s4 ⟨u, hr, h4⟩ => ?_)
    subst hr
    refine wpAny_passesOwn hp (thn h4 fun _ s5 ⟨x, H5, I5, r5, y5, st5, fr5⟩ => ?_)
    have I5' := I5.pinned (stat fr5) (T.obj _ _ st5)
    refine wpAny_passesOwn hp (thn (hg _ s5 σ3 H5 x u _ I5' r5 (step x H5 y5)) fun _ s6 ⟨σ6, H6, I6, q6⟩ => ?_)
    refine wpAny_passesOwn hp (thn (hb _ s6 σ6 H6 _ I6 q6) fun f s7 q7 => ?_)
    have again : ∀ {σ7 : St} {H7 : Hp}, Inv X (pins ++ pinsAt fp s5.heap) σ7 H7 s7 → N σ7 H7 → ∃ m, m < n ∧ ∃ i σ' H', Inv X pins σ' H' s7 ∧ tn i s7.heap ∧ (∀ b ∈ fp, H' b = none) ∧ W i m σ' H' := fun {σ7 H7} I7 n7 => by
      obtain ⟨m', hm, w7⟩ := hN σ7 H7 n7
      refine ⟨m', hm, i + 1, σ7, H7, I7.unpinned, T.keep _ _ _ st5 fun b hb o e => (I7.pin (b, o) (List.mem_append_right _ (List.mem_append_right _ (mem_pinsAt hb e)))).1, fun b hb => ?_, w7⟩
      obtain ⟨o, e, d⟩ := T.obj _ _ st5 b hb
      exact (I7.pin (b, o) (List.mem_append_right _ (List.mem_append_right _ (mem_pinsAt hb e)))).2.1
    cases f with
    | next => obtain ⟨σ7, H7, I7, n7⟩ := q7; exact again I7 n7
    | cont => obtain ⟨σ7, H7, I7, n7⟩ := q7; exact again I7 n7
    | brk => obtain ⟨σ7, H7, I7, q7⟩ := q7; exact ⟨σ7, H7, I7.unpinned, q7⟩
    | ret v => obtain ⟨x7, σ7, H7, I7, r7, q7⟩ := q7; exact ⟨x7, σ7, H7, I7.unpinned, r7, q7⟩
end

/-! ### the forms one uses -/
theorem for_range {lo : Int} {n : Nat} {g : TG} {tb : TS} {D : Ends} {σ : St} {H : Hp} (Pv : Nat → St → Hp → Prop) (h0 : Pv 0 σ H)
    (hs : ∀ i σ H, i < n → Pv i σ H → g (.int (lo + i)) σ H fun σ2 H2 => tb { D with nx := Pv (i + 1), ct := Pv (i + 1), bk := D.nx } σ2 H2) (hd : ∀ σ H, Pv n σ H → D.nx σ H) :
    ∃ W : Nat → Nat → St → Hp → Prop, (∃ m, W 0 m σ H) ∧ ∀ i m σ H, W i m σ H →
      ((Itr lo n).stop i H ∧ D.nx σ H) ∨ ((Itr lo n).go i H ∧ ∃ N : St → Hp → Prop, (∀ σ' H', N σ' H' → ∃ m', m' < m ∧ W (i + 1) m' σ' H') ∧ ∀ x H', (Itr lo n).yld i H x H' → g x σ H' fun σ2 H2 => tb { D with nx := N, ct := N, bk := D.nx } σ2 H2) := by
  refine ⟨fun i m σ H => m = n - i ∧ i ≤ n ∧ Pv i σ H, ⟨n, by simp, Nat.zero_le _, h0⟩, ?_⟩
  rintro i m σ H ⟨rfl, hi, p⟩
  by_cases hlt : i < n
  · refine .inr ⟨hlt, Pv (i + 1), fun σ' H' p' => ⟨n - (i + 1), by omega, rfl, hlt, p'⟩, fun x H' y => ?_⟩
    obtain ⟨e, y⟩ := y
    subst e y
    exact hs i σ _ hlt p
  · have e : i = n := by omega
    subst e
    exact .inl ⟨Nat.le_refl _, hd σ H p⟩
/-- while, by a word and a measure of the state -/
theorem while_by {c : TT} {tb : TS} {D : Ends} {σ : St} {H : Hp} (Pv : St → Hp → Prop) (μ : St → Hp → Nat) (h0 : Pv σ H)
    (hs : ∀ σ H, Pv σ H → c σ H fun b H1 => if b = true then tb { D with nx := fun σ' H' => Pv σ' H' ∧ μ σ' H' < μ σ H, ct := fun σ' H' => Pv σ' H' ∧ μ σ' H' < μ σ H, bk := D.nx } σ H1 else D.nx σ H1)
    (mono : ∀ σ H Q Q', (∀ b H1, Q b H1 → Q' b H1) → c σ H Q → c σ H Q') : tWhile c tb D σ H := by
  refine ⟨fun m σ H => m = μ σ H ∧ Pv σ H, ⟨_, rfl, h0⟩, ?_⟩
  rintro m σ H ⟨rfl, p⟩
  refine mono σ H _ _ (fun b H1 q => ?_) (hs σ H p)
  cases b with
  | true => exact ⟨_, fun σ' H' ⟨p', l⟩ => ⟨_, l, rfl, p'⟩, q⟩
  | false => exact q
end L2

namespace L2
open PySem PySem.Spec PyProof.Rows

abbrev R2 := V → V → Hp → VK → Prop
/-- a two-place operation on values: f is binaryOp op, inplaceOp op or compareOp op -/
def OpR (X : Cx) (f : Value → Value → Sem Value) (r : R2) : Prop :=
  ∀ (pins : List (Addr × Obj)) (s : Shared) (σ : St) (H : Hp) (x y : V) (v u : Value) (Q : VK), Inv X pins σ H s → RelV x v → RelV y u → r x y H Q →
    wpAny (model X.prog X.w) X.A (f v u) (EP X pins σ Q) X.xe s
/-- a one-place operation -/
def UnR (X : Cx) (f : Value → Sem Value) (r : V → Hp → VK → Prop) : Prop :=
  ∀ (pins : List (Addr × Obj)) (s : Shared) (σ : St) (H : Hp) (x : V) (v : Value) (Q : VK), Inv X pins σ H s → RelV x v → r x H Q →
    wpAny (model X.prog X.w) X.A (f v) (EP X pins σ Q) X.xe s
/-- a call of a value that is known (a builtin, a type) with values -/
def CallR (X : Cx) (f : Value) (r : List V → Hp → VK → Prop) : Prop :=
  ∀ (pins : List (Addr × Obj)) (s : Shared) (σ : St) (H : Hp) (xs : List V) (us : List Value) (Q : VK), Inv X pins σ H s → Vals xs us → r xs H Q →
    wpAny (model X.prog X.w) X.A (call f us) (EP X pins σ Q) X.xe s
/-- a value's truth -/
def TruR (X : Cx) (r : V → Hp → (Bool → Hp → Prop) → Prop) : Prop :=
  ∀ (pins : List (Addr × Obj)) (s : Shared) (σ : St) (H : Hp) (x : V) (v : Value) (Q : Bool → Hp → Prop), Inv X pins σ H s → RelV x v → r x H Q →
    wpAny (model X.prog X.w) X.A (truthy v) (TP X pins σ Q) X.xe s

def tOp (r : R2) (ta tb : TE) : TE := fun σ H Q => ta σ H fun x H1 => tb σ H1 fun y H2 => r x y H2 Q
def tUn (r : V → Hp → VK → Prop) (ta : TE) : TE := fun σ H Q => ta σ H fun x H1 => r x H1 Q
/-- ints in, under C, and a value out -/
def rI (C : Int → Int → Prop) (g : Int → Int → V) : R2 := fun x y H Q => ∃ i j, x = .int i ∧ y = .int j ∧ C i j ∧ Q (g i j) H
def rI0 (g : Int → Int → V) : R2 := fun x y H Q => ∃ i j, x = .int i ∧ y = .int j ∧ Q (g i j) H
def rU (g : Int → V) : V → Hp → VK → Prop := fun x H Q => ∃ i, x = .int i ∧ Q (g i) H

section
variable {X : Cx} {a b c : Expr} {ta tb tc : TE} {pos : Pos}

theorem binT (ha : PE X a ta) (hb : PE X b tb) {pins : List (Addr × Obj)} {s : Shared} {σ : St} {H : Hp} {R : V → V → Hp → Prop} (I : Inv X pins σ H s)
    (h : ta σ H fun x H1 => tb σ H1 fun y H2 => R x y H2) {Q : Value → Shared → Prop} {f : Value → Value → Sem Value}
    (hf : ∀ v u s2 x y H2, Inv X pins σ H2 s2 → RelV x v → RelV y u → R x y H2 → wpAny (model X.prog X.w) X.A (f v u) Q X.xe s2) :
    wpAny (model X.prog X.w) X.A (eval a X.env) (fun v s₁ => wpAny (model X.prog X.w) X.A (eval b X.env) (fun u s₂ => wpAny (model X.prog X.w) X.A (f v u) Q X.xe s₂) X.xe s₁) X.xe s := by
  refine thn (ha pins s σ H _ I h) fun v s1 ⟨x, H1, I1, r1, q1⟩ => ?_
  refine thn (hb pins s1 σ H1 _ I1 q1) fun u s2 ⟨y, H2, I2, r2, q2⟩ => ?_
  exact hf v u s2 x y H2 I2 r1 r2 q2

theorem pe_op {op : Operator} {r : R2} (ho : OpR X (binaryOp op) r) (ha : PE X a ta) (hb : PE X b tb) : PE X (.BinOp a op b pos) (tOp r ta tb) := by
  intro pins s σ H Q I h
  exact wpAny_BinOp (binT ha hb I h fun v u s2 x y H2 I2 rx ry q => ho pins s2 σ H2 x y v u Q I2 rx ry q)
theorem pe_un {op : UnaryOp} {r : V → Hp → VK → Prop} (ho : UnR X (unaryOp op) r) (ha : PE X a ta) : PE X (.UnaryOp op a pos) (tUn r ta) := by
  intro pins s σ H Q I h
  exact UnaryOp_ (thn (ha pins s σ H _ I h) fun v s1 ⟨x, H1, I1, r1, q1⟩ => ho pins s1 σ H1 x v Q I1 r1 q1)
/-! ### ints -/
theorem opI {f : Value → Value → Sem Value} {C : Int → Int → Prop} {g : Int → Int → Int}
    (rule : ∀ (i j : Int) (t u : Tok) (s : Shared) (Q : Value → Shared → Prop) (E : Value → Shared → Prop), C i j → Q (.int (g i j) s.toks) { s with toks := s.toks + 1 } → wpAny (model X.prog X.w) X.A (f (.int i t) (.int j u)) Q E s) :
    OpR X f (rI C fun i j => .int (g i j)) := by
  intro pins s σ H x y v u Q I rx ry h
  obtain ⟨i, j, rfl, rfl, hc, q⟩ := h
  obtain ⟨t, rfl⟩ := rx
  obtain ⟨t', rfl⟩ := ry
  exact rule i j t t' s _ _ hc ⟨.int (g i j), H, I.tok _, ⟨_, rfl⟩, q⟩
theorem opI0 {f : Value → Value → Sem Value} {g : Int → Int → Int}
    (rule : ∀ (i j : Int) (t u : Tok) (s : Shared) (Q : Value → Shared → Prop) (E : Value → Shared → Prop), Q (.int (g i j) s.toks) { s with toks := s.toks + 1 } → wpAny (model X.prog X.w) X.A (f (.int i t) (.int j u)) Q E s) :
    OpR X f (rI0 fun i j => .int (g i j)) := by
  intro pins s σ H x y v u Q I rx ry h
  obtain ⟨i, j, rfl, rfl, q⟩ := h
  obtain ⟨t, rfl⟩ := rx
  obtain ⟨t', rfl⟩ := ry
  exact rule i j t t' s _ _ ⟨.int (g i j), H, I.tok _, ⟨_, rfl⟩, q⟩
theorem opB0 {f : Value → Value → Sem Value} {g : Int → Int → Bool}
    (rule : ∀ (i j : Int) (t u : Tok) (s : Shared) (Q : Value → Shared → Prop) (E : Value → Shared → Prop), Q (.bool (g i j)) s → wpAny (model X.prog X.w) X.A (f (.int i t) (.int j u)) Q E s) :
    OpR X f (rI0 fun i j => .bl (g i j)) := by
  intro pins s σ H x y v u Q I rx ry h
  obtain ⟨i, j, rfl, rfl, q⟩ := h
  obtain ⟨t, rfl⟩ := rx
  obtain ⟨t', rfl⟩ := ry
  exact rule i j t t' s _ _ ⟨.bl (g i j), H, I, rfl, q⟩

def CDiv (i j : Int) : Prop := 0 < j ∧ j < 1073741824
def CDivN (i j : Int) : Prop := j ≠ 0 ∧ j.natAbs < 1073741824
def CPow (i j : Int) : Prop := 0 ≤ j ∧ j ≤ 1000000 ∧ i.natAbs < 2 ^ 64
def CMul (i j : Int) : Prop := (-(2 ^ 64) < i ∧ i < 2 ^ 64) ∨ (-(2 ^ 64) < j ∧ j < 2 ^ 64)
theorem CMul.ok {i j : Int} (h : CMul i j) : IntMulOk i j := by
  rcases h with ⟨h1, h2⟩ | ⟨h1, h2⟩
  · exact .of_left (intBits_le_64 h1 h2)
  · exact .of_right (intBits_le_64 h1 h2)
theorem op_add : OpR X (binaryOp .Add) (rI0 fun i j => .int (i + j)) := opI0 fun _ _ _ _ _ _ _ q => add_int q
theorem op_sub : OpR X (binaryOp .Sub) (rI0 fun i j => .int (i - j)) := opI0 fun _ _ _ _ _ _ _ q => sub_int q
theorem op_mul : OpR X (binaryOp .Mult) (rI CMul fun i j => .int (i * j)) := opI fun _ _ _ _ _ _ _ hc q => mul_int q hc.ok
/-- // by a positive divisor -/
theorem op_fdiv : OpR X (binaryOp .FloorDiv) (rI CDiv fun i j => .int (i / j)) := opI fun i j _ _ _ _ _ hc q => by
  have h1 : (0 : Int) < j := hc.1
  have h2 : j < 1073741824 := hc.2
  exact floordiv_int (by omega) (by rw [Int.fdiv_eq_ediv_of_nonneg i (by omega)]; exact q) (.inl (PyProof.noPylong_small (by omega)))
theorem unI {f : Value → Sem Value} {g : Int → Int}
    (rule : ∀ (i : Int) (t : Tok) (s : Shared) (Q : Value → Shared → Prop) (E : Value → Shared → Prop), Q (.int (g i) s.toks) { s with toks := s.toks + 1 } → wpAny (model X.prog X.w) X.A (f (.int i t)) Q E s) :
    UnR X f (rU fun i => .int (g i)) := by
  intro pins s σ H x v Q I rx h
  obtain ⟨i, rfl, q⟩ := h
  obtain ⟨t, rfl⟩ := rx
  exact rule i t s _ _ ⟨.int (g i), H, I.tok _, ⟨_, rfl⟩, q⟩
theorem un_neg : UnR X (unaryOp .USub) (rU fun i => .int (-i)) := unI fun _ _ _ _ _ q => neg_int q
/-! ### bools among ints: n += (a < b) -/
end

/-! ### comparisons -/
/-- the scalars that == tells apart as data does -/
def scal : V → V → Bool
  | .non, .non => true | .non, .int _ => true | .int _, .non => true | .non, .bl _ => true | .bl _, .non => true | .non, .str _ => true | .str _, .non => true
  | .int _, .int _ => true | .bl _, .bl _ => true | .str _, .str _ => true | .byt _, .byt _ => true
  | .int _, .str _ => true | .str _, .int _ => true | .bl _, .str _ => true | .str _, .bl _ => true
  | _, _ => false
def rEq : R2 := fun x y H Q => scal x y = true ∧ Q (.bl (decide (x = y))) H
def rNe : R2 := fun x y H Q => scal x y = true ∧ Q (.bl (!decide (x = y))) H

theorem dec_int {i j : Int} : decide (V.int i = V.int j) = (i == j) := by
  rw [Bool.eq_iff_iff]
  simp
theorem dec_bl {i j : Bool} : decide (V.bl i = V.bl j) = (i == j) := by
  rw [Bool.eq_iff_iff]
  simp
theorem dec_str {i j : Str} : decide (V.str i = V.str j) = (i == j) := by
  rw [Bool.eq_iff_iff]
  simp
theorem dec_byt {i j : Array UInt8} : decide (V.byt i = V.byt j) = (i.toList == j.toList) := by
  rw [Bool.eq_iff_iff]
  cases i
  cases j
  simp

section
variable {X : Cx} {a b c : Expr} {ta tb tc : TE} {pos : Pos}
theorem fin_bl {pins : List (Addr × Obj)} {σ : St} {H : Hp} {s : Shared} {Q : VK} {k k' : Bool} (I : Inv X pins σ H s) (q : Q (.bl k) H) (e : k = k') : EP X pins σ Q (.bool k') s := by
  subst e
  exact ⟨.bl k, H, I, rfl, q⟩
theorem op_eq : OpR X (compareOp .Eq) rEq := by
  intro pins s σ H x y v u Q I rx ry h
  obtain ⟨hs, q⟩ := h
  cases x with
  | non =>
    cases rx
    cases y with
    | non => cases ry; exact PySem.EqNone.eq_none_none (fin_bl I q (by simp))
    | bl j => cases ry; exact PySem.EqNone.eq_none_bool (fin_bl I q (by simp))
    | int j => obtain ⟨t', rfl⟩ := ry; exact PySem.EqNone.eq_none_int (fin_bl I q (by simp))
    | str j => obtain ⟨t', rfl⟩ := ry; exact PySem.EqNone.eq_none_str (fin_bl I q (by simp))
    | _ => exact absurd (show false = true from hs) Bool.false_ne_true
  | bl i =>
    cases rx
    cases y with
    | non => cases ry; exact PySem.EqNone.eq_bool_none (fin_bl I q (by simp))
    | bl j => cases ry; exact eq_bool (fin_bl I q dec_bl)
    | str j => obtain ⟨t', rfl⟩ := ry; exact PySem.EqMixed.eq_bool_str (fin_bl I q (by simp))
    | _ => exact absurd (show false = true from hs) Bool.false_ne_true
  | int i =>
    obtain ⟨t, rfl⟩ := rx
    cases y with
    | non => cases ry; exact PySem.EqNone.eq_int_none (fin_bl I q (by simp))
    | int j => obtain ⟨t', rfl⟩ := ry; exact eq_int (fin_bl I q dec_int)
    | str j => obtain ⟨t', rfl⟩ := ry; exact PySem.EqMixed.eq_int_str (fin_bl I q (by simp))
    | _ => exact absurd (show false = true from hs) Bool.false_ne_true
  | str i =>
    obtain ⟨t, rfl⟩ := rx
    cases y with
    | non => cases ry; exact PySem.EqNone.eq_str_none (fin_bl I q (by simp))
    | bl j => cases ry; exact PySem.EqMixed.eq_str_bool (fin_bl I q (by simp))
    | int j => obtain ⟨t', rfl⟩ := ry; exact PySem.EqMixed.eq_str_int (fin_bl I q (by simp))
    | str j => obtain ⟨t', rfl⟩ := ry; exact eq_str (fin_bl I q dec_str)
    | _ => exact absurd (show false = true from hs) Bool.false_ne_true
  | byt i =>
    obtain ⟨t, rfl⟩ := rx
    cases y with
    | byt j => obtain ⟨t', rfl⟩ := ry; exact PySem.W.eq_bytes (fin_bl I q dec_byt)
    | _ => exact absurd (show false = true from hs) Bool.false_ne_true
  | _ => cases y <;> exact absurd (show false = true from hs) Bool.false_ne_true
theorem op_ne : OpR X (compareOp .NotEq) rNe := by
  intro pins s σ H x y v u Q I rx ry h
  obtain ⟨hs, q⟩ := h
  cases x with
  | non =>
    cases rx
    cases y with
    | non => cases ry; exact PySem.EqNone.ne_none_none (fin_bl I q (by simp))
    | bl j => cases ry; exact PySem.EqNone.ne_none_bool (fin_bl I q (by simp))
    | int j => obtain ⟨t', rfl⟩ := ry; exact PySem.EqNone.ne_none_int (fin_bl I q (by simp))
    | str j => obtain ⟨t', rfl⟩ := ry; exact PySem.EqNone.ne_none_str (fin_bl I q (by simp))
    | _ => exact absurd (show false = true from hs) Bool.false_ne_true
  | bl i =>
    cases rx
    cases y with
    | non => cases ry; exact PySem.EqNone.ne_bool_none (fin_bl I q (by simp))
    | bl j => cases ry; exact ne_bool (fin_bl I q (congrArg not dec_bl))
    | str j => obtain ⟨t', rfl⟩ := ry; exact PySem.EqMixed.ne_bool_str (fin_bl I q (by simp))
    | _ => exact absurd (show false = true from hs) Bool.false_ne_true
  | int i =>
    obtain ⟨t, rfl⟩ := rx
    cases y with
    | non => cases ry; exact PySem.EqNone.ne_int_none (fin_bl I q (by simp))
    | int j => obtain ⟨t', rfl⟩ := ry; exact ne_int (fin_bl I q (congrArg not dec_int))
    | str j => obtain ⟨t', rfl⟩ := ry; exact PySem.EqMixed.ne_int_str (fin_bl I q (by simp))
    | _ => exact absurd (show false = true from hs) Bool.false_ne_true
  | str i =>
    obtain ⟨t, rfl⟩ := rx
    cases y with
    | non => cases ry; exact PySem.EqNone.ne_str_none (fin_bl I q (by simp))
    | bl j => cases ry; exact PySem.EqMixed.ne_str_bool (fin_bl I q (by simp))
    | int j => obtain ⟨t', rfl⟩ := ry; exact PySem.EqMixed.ne_str_int (fin_bl I q (by simp))
    | str j => obtain ⟨t', rfl⟩ := ry; exact ne_str (fin_bl I q (congrArg not dec_str))
    | _ => exact absurd (show false = true from hs) Bool.false_ne_true
  | byt i =>
    obtain ⟨t, rfl⟩ := rx
    cases y with
    | byt j => obtain ⟨t', rfl⟩ := ry; exact PySem.W.ne_bytes (fin_bl I q (congrArg not dec_byt))
    | _ => exact absurd (show false = true from hs) Bool.false_ne_true
  | _ => cases y <;> exact absurd (show false = true from hs) Bool.false_ne_true

theorem op_lt : OpR X (compareOp .Lt) (rI0 fun i j => .bl (decide (i < j))) := opB0 fun _ _ _ _ _ _ _ q => lt_int q
theorem op_le : OpR X (compareOp .LtE) (rI0 fun i j => .bl (decide (i ≤ j))) := opB0 fun _ _ _ _ _ _ _ q => le_int q
theorem op_gt : OpR X (compareOp .Gt) (rI0 fun i j => .bl (decide (j < i))) := opB0 fun _ _ _ _ _ _ _ q => gt_int q
theorem op_ge : OpR X (compareOp .GtE) (rI0 fun i j => .bl (decide (j ≤ i))) := opB0 fun _ _ _ _ _ _ _ q => ge_int q
/-- is, is not of two objects that are tracked lists or instances -/
def isObj : HO → Bool
  | .lst _ => true
  | .ins _ _ _ => true
  | _ => false
theorem nomark (b : Expr) {op : CmpOp} (h : op ≠ .In := by decide) (h2 : op ≠ .NotIn := by decide) : behindInMarks op b = false := by
  have e1 : (op == CmpOp.In) = false := by cases op <;> first | rfl | exact absurd rfl h
  have e2 : (op == CmpOp.NotIn) = false := by cases op <;> first | rfl | exact absurd rfl h2
  cases b <;> simp [behindInMarks, e1, e2]
/-- a comparison as a value; hm: nomark b, or (for in, not in) by with_unfolding_all rfl -/
theorem pe_cmpR {op : CmpOp} {r : R2} (ho : OpR X (compareOp op) r) (ha : PE X a ta) (hb : PE X b tb) (hm : behindInMarks op b = false) : PE X (.Compare a [op] [b] pos) (tOp r ta tb) := by
  intro pins s σ H Q I h
  exact wpAny_Compare1 (binT ha hb I h fun v u s2 x y H2 I2 rx ry q => ho pins s2 σ H2 x y v u Q I2 rx ry q) hm
/-- a reading of a value as a test -/
def tTest (t : TE) : TT := fun σ H Q => t σ H fun x H' => ∃ k, x = .bl k ∧ Q k H'
theorem pt_cmpR {op : CmpOp} {r : R2} (ho : OpR X (compareOp op) r) (ha : PE X a ta) (hb : PE X b tb) (hm : behindInMarks op b = false) : PT X (.Compare a [op] [b] pos) (tTest (tOp r ta tb)) := by
  intro pins s σ H Q I h
  refine wpAny_isTrue_Compare1 (thn (ha pins s σ H _ I h) fun v s1 ⟨x, H1, I1, r1, q1⟩ => thn (hb pins s1 σ H1 _ I1 q1) fun u s2 ⟨y, H2, I2, r2, q2⟩ =>
    thn (ho pins s2 σ H2 x y v u _ I2 r1 r2 q2) fun c s3 ⟨z, H3, I3, r3, k, e, q3⟩ => ?_) hm
  subst e
  cases r3
  exact wpAny_truthy_bool ⟨H3, I3, q3⟩
/-- a op1 b op2 c -/
def tChain (r r' : R2) (ta tb tc : TE) : TE := fun σ H Q => ta σ H fun x H1 => tb σ H1 fun y H2 => r x y H2 fun z H3 => ∃ k, z = .bl k ∧
  (if k = true then tc σ H3 fun w' H4 => r' y w' H4 Q else Q (.bl false) H3)
/-! ### truth -/
/-- a value's truth by the abstract heap -/
def TruV (K : PySem.W.Frag) (x : V) (H : Hp) (k : Bool) : Prop :=
  match x with
  | .non => k = false
  | .bl b => k = b
  | .int i => k = (i != 0)
  | .str y => y.length ≤ sizeLine ∧ k = ((y.length : Int) != 0)
  | .byt y => y.size ≤ sizeLine ∧ k = ((y.size : Int) != 0)
  | .ref p => (∃ xs, SqL K H p xs ∧ k = !xs.isEmpty) ∨ (∃ xs, SqT K H p xs ∧ k = !xs.isEmpty) ∨ ∃ kvs, H p = some (.dK kvs) ∧ k = !kvs.isEmpty
  | _ => False
theorem line63 : (sizeLine : Nat) < 2 ^ 63 := by rw [sizeLine_eq]; decide
/-! ### strs and bytes -/
def PlainIxT (b : Expr) : Prop := ∀ o i, subscripted b false o i = operate [o, i] (getItem o i)
/-! ### scalar builtins, by CallR -/
theorem vals1 {x : V} {us : List Value} (r : Vals [x] us) : ∃ u, us = [u] ∧ RelV x u := by
  cases r with
  | cons r1 r2 => cases r2; exact ⟨_, rfl, r1⟩
theorem vals2 {x y : V} {us : List Value} (r : Vals [x, y] us) : ∃ u w', us = [u, w'] ∧ RelV x u ∧ RelV y w' := by
  cases r with
  | cons r1 r2 =>
    cases r2 with
    | cons r3 r4 => cases r4; exact ⟨_, _, rfl, r1, r3⟩
theorem call_max2 (hc : X.calm = true) : CallR X (.builtin "max") (fun xs H Q => ∃ i j, xs = [.int i, .int j] ∧ Q (.int (if j > i then j else i)) H) := by
  intro pins s σ H xs us Q I r h
  obtain ⟨i, j, rfl, q⟩ := h
  obtain ⟨u, w', rfl, ⟨t, rfl⟩, ⟨t', rfl⟩⟩ := vals2 r
  refine max_two_ints (I.ok.hd hc) fun h' tk k => ⟨_, H, I.kept k, ?_, q⟩
  by_cases hj : j > i
  · rw [if_pos hj, if_pos hj]; exact ⟨_, rfl⟩
  · rw [if_neg hj, if_neg hj]; exact ⟨_, rfl⟩
/-- len of a str, a bytes, a list, a tuple -/
def LenV (K : PySem.W.Frag) (x : V) (H : Hp) (n : Nat) : Prop :=
  match x with
  | .str y => y.length ≤ sizeLine ∧ n = y.length
  | .byt y => y.size ≤ sizeLine ∧ n = y.size
  | .ref p => (∃ xs, SqL K H p xs ∧ n = xs.length) ∨ ∃ xs, SqT K H p xs ∧ n = xs.length
  | _ => False
end
end L2

namespace L2
open PySem PySem.Spec PyProof.Rows

/-! ### an instance, its attributes a map -/
structure ObjM (h : Heap) (x dx C : Addr) (mA : Str → Option Value) : Prop where
  obj : h.get? x = some (PySem.W.instObj C dx)
  ns : h.Ns1 dx mA
  ne : dx ≠ x

theorem lookIn_ns {h : Heap} {dx : Addr} {mA : Str → Option Value} (n : h.Ns1 dx mA) : ∃ od, h.get? dx = some od ∧ ∀ name, PySem.W.lookIn name od = some (mA name) := by
  obtain ⟨o, es, ep, ho, hd, hk, _, hm⟩ := n
  refine ⟨o, ho, fun name => ?_⟩
  have e := hm name
  unfold nsFind findBy at e
  rw [← Array.find?_toList] at e
  unfold PySem.W.lookIn
  rw [hd]
  dsimp only
  split
  · rename_i y q
    rw [q] at e
    exact congrArg some e
  · rename_i q
    rw [q] at e
    have a : es.toList.any (·.refKey) = false := by
      rw [List.any_eq_false]
      intro y hy
      obtain ⟨z, t, hkey⟩ := hk y (Array.mem_toList_iff.mp hy)
      simp [DictEntry.refKey, hkey]
    have a' : ¬ es.toList.any (·.refKey) = true := by rw [a]; exact Bool.false_ne_true
    rw [if_neg a']
    exact congrArg some e

theorem ObjM.look {h : Heap} {x dx C : Addr} {mA : Str → Option Value} (I : ObjM h x dx C mA) : ∃ od, PySem.W.InstAt h x (PySem.W.instObj C dx) C (some od) ∧ ∀ name, PySem.W.lookIn name od = some (mA name) :=
  let ⟨od, ho, hl⟩ := lookIn_ns I.ns
  ⟨od, ⟨I.obj, rfl, rfl, ho⟩, hl⟩

section
variable {prog : Program} {w : World} {A : Around} {E : Value → Shared → Prop} {s : Shared} {K : PySem.W.Frag} {x dx C f : Addr} {mA : Str → Option Value} {name : Str} {v : Value}

theorem get_map {expr : Bool} {Q : Value → Shared → Prop} (X : K.In s.heap) (I : ObjM s.heap x dx C mA) (hg : PySem.W.plainGet K C name = true) (hh : PySem.W.hasDictIn K C = true)
    (ha : PySem.W.findIn K (.ref C) name = some none) (hv : mA name = some v) (hv' : PySem.W.handedIn v = true) (h : Q v { s with toks := s.toks + 1 }) :
    wpAny (model prog w) A (getAttr (.ref x) name expr) Q E s := by
  obtain ⟨od, J, hl⟩ := I.look
  exact PySem.W.get_value X J (PySem.W.plainGet_of hg).1 (PySem.W.findObj_own hh ha rfl (by rw [hl, hv])) hv' h

theorem set_map {ns : List Str} {Q : Unit → Shared → Prop} (X : K.In s.heap) (I : ObjM s.heap x dx C mA)
    (hs : PySem.W.findIn K (.ref C) "__setattr__" = some (some (.builtin "object.__setattr__"))) (hp : PySem.W.plainOver K C = true) (ht : PySem.W.takerIn K C name = some none) (hh : PySem.W.hasDictIn K C = true)
    (hw : PySem.Within mA ns) (hsz : ns.length ≤ sizeLine)
    (h : ∀ h', ObjM h' x dx C (fun y => if y = name then some v else mA y) → Heap.SameBut dx s.heap h' → Q () { s with heap := h', toks := s.toks + 2 }) :
    wpAny (model prog w) A (setAttr (.ref x) name v) Q E s := by
  obtain ⟨od, J, hl⟩ := I.look
  refine PySem.W.set_plain X J hs (PySem.W.osa_open (s := { s with toks := s.toks + 1 }) (r := none) X J hp ht fun b => ?_)
  obtain ⟨cd, hc, hd'⟩ := PySem.W.any_some hh
  have hx : s.heap.get? x = some ⟨.ref C, some dx, .plain, #[]⟩ := I.obj
  refine wpAny_bind (wpAny_pure (wpAny_bind (wpAny_bind (wpAny_loadPart hx (wpAny_bind (PySem.W.Looks.here (s := { s with toks := s.toks + 1 }) (PySem.W.looks_clsIn X hc) ?_))))))
  rw [hd']
  refine wpAny_pure (a := some dx) (wpAny_bind (wpAny_pure (wpAny_bind ?_)))
  refine wpAny_nsSet1 (s := { s with toks := s.toks + 1 }) I.ns fun h' hn2 hs2 => ?_
  obtain ⟨oD, esD, epD, hoD, hdD, hcD⟩ := hn2.count (PySem.Within.cons name v hw)
  refine wpAny_bind (wpAny_lookBehind hoD (by rw [hdD]; exact pastItsLine_dict (Nat.le_trans hcD (by rw [List.length_cons]; omega))) ?_)
  exact wpAny_pure (h _ ⟨(hs2.2 _ (Ne.symm I.ne)).trans I.obj, hn2, I.ne⟩ hs2)

/-- C(..): the dict at the heap's end, the instance behind it; then its __init__ -/
theorem make_map {R : Result → Shared → Prop} {vs : List Value} {kw : List (Str × Value)} (X : K.In s.heap) (hm : PySem.W.makesIn K C = true)
    (hi : PySem.W.findIn K (.ref C) "__init__" = some (some (.ref f))) (hf : PySem.W.typeIn K (.ref f) = some (.type "function"))
    (h : codeAny (model prog w) (A.under (.builtin "type.__call__" ⟨.ref C :: vs, kw⟩)) (.call (.ref f) ⟨.ref (s.heap.objs.size + 1) :: vs, kw⟩) (PySem.W.InitBack (s.heap.objs.size + 1) R)
      { s with heap := (s.heap.push PySem.W.emptyDict).push (PySem.W.instObj C s.heap.objs.size) }) :
    codeAny (model prog w) A (.call (.ref C) ⟨vs, kw⟩) R s := by
  obtain ⟨hh, g, d, t, os⟩ := s
  exact PySem.W.make_core (PySem.W.makes_of X hm) (PySem.W.looks_findIn X hi) (fun self => PySem.W.bind_fn X self hf) (.inl rfl) h
end

/-! ### the attributes as a list of pairs -/
def putF (f : Str) (v : V) : List (Str × V) → List (Str × V)
  | [] => [(f, v)]
  | (g, x) :: r => if g = f then (g, v) :: r else (g, x) :: putF f v r
theorem lookup_putF (f g : Str) (v : V) : ∀ fs : List (Str × V), (putF f v fs).lookup g = if g = f then some v else fs.lookup g
  | [] => by
    show List.lookup g [(f, v)] = _
    by_cases h : g = f
    · have hb : (g == f) = true := beq_iff_eq.mpr h
      simp only [List.lookup, hb, if_pos h]
    · have hb : (g == f) = false := beq_eq_false_iff_ne.mpr h
      simp only [List.lookup, hb, if_neg h]
  | (k, x) :: r => by
    have ih := lookup_putF f g v r
    rw [show putF f v ((k, x) :: r) = (if k = f then (k, v) :: r else (k, x) :: putF f v r) from rfl]
    by_cases hk : k = f
    · rw [if_pos hk]
      by_cases h : g = k
      · have hb : (g == k) = true := beq_iff_eq.mpr h
        simp only [List.lookup, hb, if_pos (h.trans hk)]
      · have hb : (g == k) = false := beq_eq_false_iff_ne.mpr h
        simp only [List.lookup, hb, if_neg (fun e : g = f => h (e.trans hk.symm))]
    · rw [if_neg hk]
      by_cases h : g = k
      · have hb : (g == k) = true := beq_iff_eq.mpr h
        simp only [List.lookup, hb, if_neg (fun e : g = f => hk (h.symm.trans e))]
      · have hb : (g == k) = false := beq_eq_false_iff_ne.mpr h
        simp only [List.lookup, hb]
        exact ih
theorem keys_putF (f : Str) (v : V) : ∀ fs : List (Str × V), f ∈ (putF f v fs).map (·.1) ∧ ∀ g, g ∈ fs.map (·.1) → g ∈ (putF f v fs).map (·.1)
  | [] => ⟨by simp [putF], fun g h => by simp at h⟩
  | (k, x) :: r => by
    obtain ⟨i1, i2⟩ := keys_putF f v r
    rw [show putF f v ((k, x) :: r) = (if k = f then (k, v) :: r else (k, x) :: putF f v r) from rfl]
    by_cases hk : k = f
    · rw [if_pos hk]
      subst hk
      exact ⟨by simp, fun g h => by simpa using h⟩
    · rw [if_neg hk]
      refine ⟨?_, fun g h => ?_⟩
      · rw [List.map_cons]
        exact List.mem_cons_of_mem _ i1
      · rw [List.map_cons] at h ⊢
        rcases List.mem_cons.mp h with e | e
        · exact List.mem_cons.mpr (.inl e)
        · exact List.mem_cons_of_mem _ (i2 g e)
theorem length_putF (f : Str) (v : V) : ∀ fs : List (Str × V), (putF f v fs).length ≤ fs.length + 1
  | [] => by simp [putF]
  | (k, x) :: r => by
    have ih := length_putF f v r
    rw [show putF f v ((k, x) :: r) = (if k = f then (k, v) :: r else (k, x) :: putF f v r) from rfl]
    by_cases hk : k = f
    · rw [if_pos hk, List.length_cons, List.length_cons]; omega
    · rw [if_neg hk, List.length_cons, List.length_cons]; omega

theorem RelO.some_of {v : V} {o : Option Value} (r : RelO (some v) o) : ∃ u, o = some u ∧ RelV v u := by
  cases o with
  | none => exact (show False from r).elim
  | some u => exact ⟨u, rfl, r⟩
theorem handed_of {v : V} {u : Value} (r : RelV v u) : PySem.W.handedIn u = true := by
  cases v with
  | non => cases (show u = Value.none from r); rfl
  | bl b => cases (show u = Value.bool b from r); rfl
  | int i => obtain ⟨t, e⟩ := (show ∃ t, u = Value.int i t from r); cases e; rfl
  | str x => obtain ⟨t, e⟩ := (show ∃ t, u = Value.str x t from r); cases e; rfl
  | byt b => obtain ⟨t, e⟩ := (show ∃ t, u = Value.bytes b t from r); cases e; rfl
  | flt b => obtain ⟨t, e⟩ := (show ∃ t, u = Value.float b t from r); cases e; rfl
  | ref a => cases (show u = Value.ref a from r); rfl
  | ty n => cases (show u = Value.type n from r); rfl

section
variable {P : Program} {w : World} {H H' : Hp} {h h' : Heap} {a C dx : Addr} {fs fs' : List (Str × V)}
theorem ins_get (hok : HOk P w H h) (e : H a = some (.ins C dx fs)) : ∃ mA, ObjM h a dx C mA ∧ (∀ f, RelO (fs.lookup f) (mA f)) ∧ PySem.Within mA (fs.map (·.1)) ∧ fs.length ≤ 1000 ∧ H dx = some (.own a) := by
  obtain ⟨d, z, ne, ob, mA, n, r, q⟩ := (show ObjOk P w H h a (.ins C dx fs) from hok a _ e)
  exact ⟨mA, ⟨ob, n, ne⟩, r, q, z, d⟩
end

/-! ### what of the text a class must have -/
structure Cls (K : PySem.W.Frag) (C : Addr) : Prop where
  pg : PySem.W.plainGet K C Str.empty = true
  hd : PySem.W.hasDictIn K C = true
  po : PySem.W.plainOver K C = true
  sa : PySem.W.findIn K (.ref C) "__setattr__" = some (some (.builtin "object.__setattr__"))
theorem Cls.get {K : PySem.W.Frag} {C : Addr} (c : Cls K C) (f : Str) : PySem.W.plainGet K C f = true := c.pg
/-- no class of it has the name -/
def NoAttr (K : PySem.W.Frag) (C : Addr) (f : Str) : Prop := PySem.W.findIn K (.ref C) f = some none
theorem NoAttr.taker {K : PySem.W.Frag} {C : Addr} {f : Str} (n : NoAttr K C f) : PySem.W.takerIn K C f = some none := by
  unfold PySem.W.takerIn
  rw [show PySem.W.findIn K (.ref C) f = some none from n]
  rfl
/-- a constant of the class -/
structure Con (K : PySem.W.Frag) (C : Addr) (f : Str) (v : V) (u : Value) : Prop where
  at_ : PySem.W.findIn K (.ref C) f = some (some u)
  rel : RelV v u
  get : PySem.W.specialIn K u "__get__" = some none
  cp : PySem.W.copiedNames.contains f = false
/-- a method: a plain def of the class or of one above it -/
structure Meth (K : PySem.W.Frag) (C : Addr) (m : Str) (f : Addr) : Prop where
  at_ : PySem.W.findIn K (.ref C) m = some (some (.ref f))
  fn : PySem.W.isFn K (.ref f) = true
  kp : PySem.W.keepIn K (.ref f) = true

section
variable {X : Cx} {pins : List (Addr × Obj)} {σ : St} {H : Hp} {s : Shared} {a C dx : Addr} {fs : List (Str × V)} {f : Str} {v : V} {A : Around} {E : Value → Shared → Prop}

theorem getattr_ok {b : Bool} {Q : Value → Shared → Prop} (I : Inv X pins σ H s) (e : H a = some (.ins C dx fs)) (c : Cls X.K C) (n : NoAttr X.K C f) (l : fs.lookup f = some v)
    (h : ∀ u s', Inv X pins σ H s' → RelV v u → Q u s') : wpAny (model X.prog X.w) A (getAttr (.ref a) f b) Q E s := by
  obtain ⟨mA, O, r, _, _, _⟩ := ins_get I.hok e
  obtain ⟨u, hu, ru⟩ := RelO.some_of (v := v) (o := mA f) (by rw [← l]; exact r f)
  exact get_map I.kIn O (c.get f) c.hd n hu (handed_of ru) (h u _ (I.tok _) ru)

theorem setattr_ok {y : V} {u : Value} {Q : Unit → Shared → Prop} (I : Inv X pins σ H s) (e : H a = some (.ins C dx fs)) (c : Cls X.K C) (n : NoAttr X.K C f) (hl : fs.length < 1000) (ry : RelV y u)
    (h : ∀ s', Inv X pins σ (upd H a (.ins C dx (putF f y fs))) s' → Q () s') : wpAny (model X.prog X.w) A (setAttr (.ref a) f u) Q E s := by
  obtain ⟨mA, O, r, wi, _, ho⟩ := ins_get I.hok e
  have hz : (fs.map (·.1)).length ≤ sizeLine := by rw [List.length_map, sizeLine_eq]; omega
  refine set_map I.kIn O c.sa c.po n.taker c.hd wi hz fun h' O' sb => h _ ?_
  have hd : ∃ o, h'.get? dx = some o := let ⟨o, _, _, e', _⟩ := O'.ns; ⟨o, e'⟩
  refine I.write (x := a) (e := dx) (by rw [e]; exact True.intro) (.inr ho) (fun b q hb z => (sb.2 b hb).trans z) hd ?_
  refine ⟨by rw [upd_ne O.ne]; exact ho, ?_, O.ne, O'.obj, _, O'.ns, fun g => ?_, fun g hg => ?_⟩
  · have := length_putF f y fs; omega
  · show RelO ((putF f y fs).lookup g) (if g = f then some u else mA g)
    rw [lookup_putF]
    by_cases q : g = f
    · rw [if_pos q, if_pos q]; exact ry
    · rw [if_neg q, if_neg q]; exact r g
  · by_cases q : g = f
    · rw [q]; exact (keys_putF f y fs).1
    · refine (keys_putF f y fs).2 g (wi g fun z => hg ?_)
      show (if g = f then some u else mA g) = none
      rw [if_neg q]; exact z

/-- a new instance, tracked, without attributes -/
theorem Inv.made (I : Inv X pins σ H s) : Inv X pins σ (upd (upd H s.heap.objs.size (.own (s.heap.objs.size + 1))) (s.heap.objs.size + 1) (.ins C s.heap.objs.size []))
    { s with heap := (s.heap.push PySem.W.emptyDict).push (PySem.W.instObj C s.heap.objs.size) } := by
  have e1 : (s.heap.push PySem.W.emptyDict).get? s.heap.objs.size = some PySem.W.emptyDict := Heap.get?_push_size s.heap rfl
  have e2 : ((s.heap.push PySem.W.emptyDict).push (PySem.W.instObj C s.heap.objs.size)).get? (s.heap.objs.size + 1) = some (PySem.W.instObj C s.heap.objs.size) := by
    have := Heap.get?_push_size (s.heap.push PySem.W.emptyDict) (o := PySem.W.instObj C s.heap.objs.size) rfl
    rwa [Heap.size_push] at this
  have e3 : (s.heap.push PySem.W.emptyDict).Ns s.heap.objs.size (fun _ => none) := ⟨PySem.W.emptyDict, #[], _, e1, rfl, (fun e he => absurd he (by simp)), fun _ => rfl⟩
  have I1 := I.laid (a := s.heap.objs.size) (o := .own (s.heap.objs.size + 1)) (h' := s.heap.push PySem.W.emptyDict) (t' := s.toks) (fun b u q => Heap.get?_push_of_some _ q) (Nat.le_refl _) ⟨_, e1⟩
  refine I1.laid (a := s.heap.objs.size + 1) (o := .ins C s.heap.objs.size []) (t' := s.toks) (fun b u q => Heap.get?_push_of_some _ q) (Nat.le_of_eq (Heap.size_push _ _)) ?_
  have ne : s.heap.objs.size ≠ s.heap.objs.size + 1 := Nat.ne_of_lt (Nat.lt_succ_self _)
  refine ⟨by rw [upd_ne ne, upd_same], Nat.zero_le _, ne, e2, fun _ => none, (Heap.Ns1.of_empty e3).at fun o q => Heap.get?_push_of_some _ q, fun _ => True.intro, fun y hy => absurd rfl hy⟩

/-- e.f where nothing but the object is asked: through attributeBase (super) and the last hold -/
theorem attr_of {prog : Program} {w : World} {env : Env} {e : Expr} {f : Str} {pos : Pos} {s : Shared} {Q : Value → Shared → Prop} (hb : attributeBase e f env (eval e env) = eval e env)
    (h : wpAny (model prog w) A (eval e env) (fun o s₁ => wpAny (model prog w) A (getAttr o f true) Q E s₁) E s) : wpAny (model prog w) A (eval (.Attribute e f pos) env) Q E s :=
  Attribute_any_ h (by rw [arm_eval_Attribute, hb])
end

/-! ### readings and rules -/
/-- e.f, an attribute of the instance -/
def tFld (K : PySem.W.Frag) (ta : TE) (f : Str) : TE := fun σ H Q => ta σ H fun x H1 => ∃ a C dx fs v, x = .ref a ∧ H1 a = some (.ins C dx fs) ∧ Cls K C ∧ NoAttr K C f ∧ fs.lookup f = some v ∧ Q v H1
/-- e.f, a constant of the class -/
def tCon (K : PySem.W.Frag) (ta : TE) (f : Str) : TE := fun σ H Q => ta σ H fun x H1 => ∃ a C dx fs v u, x = .ref a ∧ H1 a = some (.ins C dx fs) ∧ Cls K C ∧ Con K C f v u ∧ fs.lookup f = none ∧ Q v H1
/-- e.f = value -/
def sFld (K : PySem.W.Frag) (ta tv : TE) (f : Str) : TS := fun D σ H => tv σ H fun y H1 => ta σ H1 fun x H2 => ∃ a C dx fs, x = .ref a ∧ H2 a = some (.ins C dx fs) ∧ Cls K C ∧ NoAttr K C f ∧ fs.length < 1000 ∧
  D.nx σ (upd H2 a (.ins C dx (putF f y fs)))
/-- an augmented operator on two values -/
def InOp (X : Cx) (op : Operator) (rd : V → V → Hp → VK → Prop) : Prop :=
  ∀ (pins : List (Addr × Obj)) (s : Shared) (σ : St) (H : Hp) (x y : V) (u v : Value) (Q : VK), Inv X pins σ H s → RelV x u → RelV y v → rd x y H Q → wpAny (model X.prog X.w) X.A (inplaceOp op u v) (EP X pins σ Q) X.xe s
/-- e.f op= value -/
def sFldAug (K : PySem.W.Frag) (ta tv : TE) (rd : V → V → Hp → VK → Prop) (f : Str) : TS := fun D σ H => ta σ H fun x H1 => ∃ a C dx fs v, x = .ref a ∧ H1 a = some (.ins C dx fs) ∧ Cls K C ∧ NoAttr K C f ∧ fs.lookup f = some v ∧
  tv σ H1 fun y H2 => rd v y H2 fun z H3 => ∃ dx' fs', H3 a = some (.ins C dx' fs') ∧ fs'.length < 1000 ∧ D.nx σ (upd H3 a (.ins C dx' (putF f z fs')))

section
variable {X : Cx} {o e value : Expr} {f : Str} {pos pos' tpos : Pos} {ta tv : TE}
theorem pe_fld (he : PE X e ta) (hb : attributeBase e f X.env (eval e X.env) = eval e X.env) : PE X (.Attribute e f pos) (tFld X.K ta f) := by
  intro pins s σ H Q I h
  refine attr_of hb (thn (he pins s σ H _ I h) fun u s1 ⟨x, H1, I1, rx, a, C, dx, fs, v, ex, ea, c, n, l, q⟩ => ?_)
  subst ex
  obtain rfl : u = Value.ref a := rx
  exact getattr_ok I1 ea c n l fun u' s2 I2 ru => ⟨v, H1, I2, ru, q⟩
theorem ps_fld (ha : PE X o ta) (hv : PE X value tv) (hs : swapsWith value (some (.Attribute o f pos')) pos.line X.env = pure false) : PS X (.Assign [.Attribute o f pos'] value pos) (sFld X.K ta tv f) := by
  intro pins s σ H D I h
  refine plainObj_wpAny_Assign_Attribute (thn (hv pins s σ H _ I h) fun u s1 ⟨y, H1, I1, ry, q⟩ => thn (ha pins s1 σ H1 _ I1 q) fun ov s2 ⟨x, H2, I2, rx, a, C, dx, fs, ex, ea, c, n, l, q2⟩ => ?_) hs
  subst ex
  obtain rfl : ov = Value.ref a := rx
  exact setattr_ok I2 ea c n l ry fun s3 I3 => ⟨σ, _, I3, q2⟩
theorem ps_fldaug {op : Operator} {rd : V → V → Hp → VK → Prop} (ha : PE X o ta) (hv : PE X value tv) (hop : InOp X op rd) : PS X (.AugAssign (.Attribute o f tpos) op value pos) (sFldAug X.K ta tv rd f) := by
  intro pins s σ H D I h
  refine wpAny_AugAssign_AttributeAny (thn (ha pins s σ H _ I h) fun ov s1 ⟨x, H1, I1, rx, a, C, dx, fs, v, ex, ea, c, n, l, q⟩ => ?_)
  subst ex
  obtain rfl : ov = Value.ref a := rx
  refine getattr_ok I1 ea c n l fun u s2 I2 ru => thn (hv pins s2 σ H1 _ I2 q) fun w3 s3 ⟨y, H2, I3, ry, q3⟩ => thn (hop pins s3 σ H2 v y u w3 _ I3 ru ry q3) fun w4 s4 ⟨z, H3, I4, rz, dx', fs', ea', l', q4⟩ => ?_
  exact setattr_ok I4 ea' c n l' rz fun s5 I5 => ⟨σ, _, I5, q4⟩
def rAdd : V → V → Hp → VK → Prop := fun x y H Q => ∃ i j, x = .int i ∧ y = .int j ∧ Q (.int (i + j)) H
def rSub : V → V → Hp → VK → Prop := fun x y H Q => ∃ i j, x = .int i ∧ y = .int j ∧ Q (.int (i - j)) H
theorem in_add : InOp X .Add rAdd := by
  rintro pins s σ H x y u v Q I rx ry ⟨i, j, rfl, rfl, q⟩
  obtain ⟨t, rfl⟩ := (show ∃ t, u = Value.int i t from rx)
  obtain ⟨t', rfl⟩ := (show ∃ t', v = Value.int j t' from ry)
  exact PyProof.Rows.iadd_int ⟨.int (i + j), H, I.tok _, ⟨_, rfl⟩, q⟩
end

/-! ### isinstance -/
section
variable {X : Cx} {pins : List (Addr × Obj)} {σ : St} {H : Hp} {s : Shared} {A : Around} {E : Value → Shared → Prop} {Q : Value → Shared → Prop} {c : Value} {b : Bool}
/-- the type of a value, as the fragment's deciders take it; for an instance its class -/
inductive TyOf (K : PySem.W.Frag) (H : Hp) : V → Value → Prop where
  | non : TyOf K H .non (.type "NoneType")
  | bl (x : Bool) : TyOf K H (.bl x) (.type "bool")
  | int (i : Int) : TyOf K H (.int i) (.type "int")
  | str (x : Str) : TyOf K H (.str x) (.type "str")
  | flt (x : UInt64) : TyOf K H (.flt x) (.type "float")
  | lst {a : Addr} {xs : List V} (e : H a = some (.lst xs)) : TyOf K H (.ref a) (.type "list")
  | frz {a : Addr} {o : Obj} {xs : List V} (e : H a = some (.frz o (.lst xs))) : TyOf K H (.ref a) (.type "list")
  | tup {a : Addr} {xs : List V} (e : H a = some (.tup xs)) : TyOf K H (.ref a) (.type "tuple")
  | dK {a : Addr} {kvs : List (Key × V)} (e : H a = some (.dK kvs)) : TyOf K H (.ref a) (.type "dict")
  | dT {a : Addr} {kvs : List (List Key × V)} (e : H a = some (.dT kvs)) : TyOf K H (.ref a) (.type "dict")
  | ins {a C dx : Addr} {fs : List (Str × V)} (e : H a = some (.ins C dx fs)) (cl : Cls K C) (ha : PySem.W.findIn K (.ref C) "__class__" = some (some (.builtin "object.__class__")))
      (hn : PySem.W.specialIn K (.builtin "object.__class__") "__get__" = some (some (.builtin "getset_descriptor.__get__"))) (htk : PySem.W.takesIn K (.builtin "object.__class__") = some true)
      (hm : PySem.W.mroIn K C (.type "object") = some true) : TyOf K H (.ref a) (.ref C)
end
end L2

namespace L2
open PySem PySem.Spec PyProof.Rows

/-! ### room -/
structure Room (k : Nat) (A : Around) : Prop where
  hd : A.handled = none
  dp : A.depth + 3 * k + 5 < recursionLimit
  un : A.units + 16 * k + 200 < cLine
theorem Room.mono {j k : Nat} {A : Around} (r : Room k A) (h : j ≤ k) : Room j A := ⟨r.hd, by have := r.dp; omega, by have := r.un; omega⟩
theorem Room.deeper {k : Nat} {A : Around} (r : Room (k + 1) A) (env : Env) : Room k (A.deeper env) :=
  ⟨r.hd, by have := r.dp; show A.depth + 1 + 3 * k + 5 < _; omega, by have := r.un; show A.units + 3 + 16 * k + 200 < _; omega⟩
theorem make_depth {A : Around} {C : Addr} {us : List Value} {kw : List (Str × Value)} : (A.under (.builtin "type.__call__" ⟨.ref C :: us, kw⟩)).depth = A.depth + 1 := by
  first | rfl | simp [Around.under, Code.weight, Code.isCreation, Code.isGuard, Code.isCaller, Code.frames, Code.isFrame, guardIds]
theorem make_units {A : Around} {C : Addr} {us : List Value} {kw : List (Str × Value)} : (A.under (.builtin "type.__call__" ⟨.ref C :: us, kw⟩)).units = A.units + 1 := by
  first | rfl | simp [Around.under, Code.cUnits, Code.frames, Code.isFrame]
theorem Room.make {k : Nat} {A : Around} (r : Room (k + 1) A) (C : Addr) (us : List Value) (kw : List (Str × Value)) : Room k (A.under (.builtin "type.__call__" ⟨.ref C :: us, kw⟩)) :=
  ⟨r.hd, by have := r.dp; rw [make_depth]; omega, by have := r.un; rw [make_units]; omega⟩
theorem Room.depth {k : Nat} {A : Around} (r : Room k A) : A.depth < recursionLimit := by have := r.dp; omega
theorem Room.units {k : Nat} {A : Around} (r : Room k A) : A.units + 64 < cLine := by have := r.un; omega
/-! ### argument lists and displays -/
def tNil : TA := fun _ H Q => Q [] H
def tCons (ta : TE) (tr : TA) : TA := fun σ H Q => ta σ H fun x H1 => tr σ H1 fun xs H2 => Q (x :: xs) H2
section
variable {X : Cx} {e : Expr} {es : List Expr} {te : TE} {t : TA} {pos : Pos}
theorem pa_nil : PA X [] tNil := fun _ _ _ _ H Q I h => Calls.spliced_nil ⟨[], H, I, .nil, h⟩
theorem pa_cons (ha : PE X e te) (hr : PA X es t) (hs : starEach (e :: es) X.env = (false, eval e X.env) :: starEach es X.env := by rfl) : PA X (e :: es) (tCons te t) := by
  intro pos pins s σ H Q I h
  rw [hs]
  show wpAny _ _ (spliced ((false, eval e X.env) :: backTo pos (starEach es X.env))) _ _ s
  refine Calls.spliced_cons (thn (ha pins s σ H _ I h) fun u s1 ⟨x, H1, I1, r1, q1⟩ => ?_)
  exact thn (hr pos pins s1 σ H1 _ I1 q1) fun us s2 ⟨xs, H2, I2, r2, q2⟩ => ⟨x :: xs, H2, I2, .cons r1 r2, q2⟩

/-- a tuple, a list of written items -/
def tTup (t : TA) : TE := fun σ H Q => t σ H fun xs H1 => xs.length ≤ sizeLine ∧ ∀ p, H1 p = none → Q (.ref p) (upd H1 p (.tup xs))
def tLst (t : TA) : TE := fun σ H Q => t σ H fun xs H1 => xs.length ≤ sizeLine ∧ ∀ p, H1 p = none → Q (.ref p) (upd H1 p (.lst xs))
theorem pe_tup {x1} (h : PA X es t) : PE X (.Tuple es x1 pos) (tTup t) := by
  intro pins s σ H Q I hq
  refine wpAny_Tuple_spliced (thn (h pos pins s σ H _ I hq) fun us s1 ⟨xs, H1, I1, r, z, q⟩ => ⟨by rw [← r.length]; exact z, ?_⟩)
  have hf : H1 s1.heap.objs.size = none := I1.hok.fresh (Nat.le_refl _)
  refine ⟨.ref s1.heap.objs.size, upd H1 s1.heap.objs.size (.tup xs), I1.laid (t' := s1.toks) (fun b u e => Heap.get?_push_of_some _ e) (Nat.le_refl _) ?_, rfl, q _ hf⟩
  exact ⟨z, us, r, ⟨_, Heap.get?_push_size _ rfl, rfl, _, rfl⟩⟩
theorem pe_lst (h : PA X es t) : PE X (.List es pos) (tLst t) := by
  intro pins s σ H Q I hq
  refine wpAny_List_spliced (thn (h pos pins s σ H _ I hq) fun us s1 ⟨xs, H1, I1, r, z, q⟩ => ⟨by rw [← r.length]; exact z, ?_⟩)
  have hf : H1 s1.heap.objs.size = none := I1.hok.fresh (Nat.le_refl _)
  refine ⟨.ref s1.heap.objs.size, upd H1 s1.heap.objs.size (.lst xs), I1.laid (t' := s1.toks) (fun b u e => Heap.get?_push_of_some _ e) (Nat.le_refl _) ?_, rfl, q _ hf⟩
  exact ⟨z, us, 0, r, Heap.get?_push_size _ rfl⟩
end

/-! ### what a def promises -/
/-- a def's promise: the bound arguments in the parameters' order, the heap, the wanted end, the wanted exception -/
abbrev Sp := List V → Hp → VK → XK → Prop
/-- how an exception lies behind a call (file 08 gives it): the callers' frames, abstract heap and state ahead of the call, the wish, the exception, the state -/
abbrev CXT := List Env → Hp → Shared → XK → Value → Shared → Prop

/-- the state at a call -/
structure Env0 (P : Program) (w : World) (K : PySem.W.Frag) (mg : Str → Option Value) (base : Heap) (A : Around) (outer : List Env) (s : Shared) (H : Hp) : Prop where
  frames : A.frames = some outer
  mod : Mod K mg base
  bs : ∀ b o, base.get? b = some o → s.heap.get? b = some o ∧ H b = none
  bsz : base.objs.size ≤ s.heap.objs.size
  funs : s.heap.FunFrames base outer
  frf : ∀ b ∈ frs outer, H b = none
  hok : HOk P w H s.heap
  bare : AllBare s.gens
/-- a call's end -/
def CE (outer : List Env) (P : Program) (w : World) (H : Hp) (s : Shared) (Q : VK) (u : Value) (s' : Shared) : Prop :=
  ∃ v H', s'.os = s.os ∧ AllBare s'.gens ∧ Un (frs outer) [] H H' s.heap s'.heap ∧ HOk P w H' s'.heap ∧ RelV v u ∧ Q v H'
def CR (CX : CXT) (outer : List Env) (P : Program) (w : World) (H : Hp) (s : Shared) (Q : VK) (E : XK) (r : Result) (s' : Shared) : Prop :=
  match r with
  | .ok (.ret u) => CE outer P w H s Q u s'
  | .ok _ => False
  | .error e => CX outer H s E e s'
structure FnOk (P : Program) (w : World) (K : PySem.W.Frag) (mg : Str → Option Value) (base : Heap) (CX : CXT) (k : Nat) (f : Addr) (fd : FuncData) (ps : List Str) (sp : Sp) : Prop where
  len : ∀ vs H Q E, sp vs H Q E → vs.length = ps.length
  run : ∀ (A : Around) (outer : List Env) (s : Shared) (H : Hp) (args : Args) (us : List Value) (vs : List V) (Q : VK) (E : XK), Room k A → Env0 P w K mg base A outer s H → BindsTo s fd args (ps.zip us) → Vals vs us → sp vs H Q E →
    codeAny (model P w) A (.call (.ref f) args) (CR CX outer P w H s Q E) s
theorem FnOk.mono {P : Program} {w : World} {K : PySem.W.Frag} {mg : Str → Option Value} {base : Heap} {CX : CXT} {j k : Nat} {f : Addr} {fd : FuncData} {ps : List Str} {sp : Sp} (F : FnOk P w K mg base CX j f fd ps sp) (h : j ≤ k) :
    FnOk P w K mg base CX k f fd ps sp := ⟨F.len, fun A outer s H args us vs Q E hr => F.run A outer s H args us vs Q E (hr.mono h)⟩
/-- a weaker promise -/
theorem FnOk.imp {P : Program} {w : World} {K : PySem.W.Frag} {mg : Str → Option Value} {base : Heap} {CX : CXT} {k : Nat} {f : Addr} {fd : FuncData} {ps : List Str} {sp sp' : Sp} (F : FnOk P w K mg base CX k f fd ps sp)
    (h : ∀ vs H Q E, sp' vs H Q E → sp vs H Q E) : FnOk P w K mg base CX k f fd ps sp' :=
  ⟨fun vs H Q E q => F.len vs H Q E (h _ _ _ _ q), fun A outer s H args us vs Q E hr he hb hv hs => F.run A outer s H args us vs Q E hr he hb hv (h _ _ _ _ hs)⟩

theorem Env0.make {P : Program} {w : World} {K : PySem.W.Frag} {mg : Str → Option Value} {base : Heap} {A : Around} {outer : List Env} {s : Shared} {H : Hp} (e : Env0 P w K mg base A outer s H) (C : Addr) (us : List Value) (kw : List (Str × Value)) :
    Env0 P w K mg base (A.under (.builtin "type.__call__" ⟨.ref C :: us, kw⟩)) outer s H := ⟨by first | exact e.frames | (simpa [Around.under, Code.envs, Code.isFrame, pushEnvs] using e.frames), e.mod, e.bs, e.bsz, e.funs, e.frf, e.hok, e.bare⟩
section
variable {X : Cx} {pins : List (Addr × Obj)} {σ : St} {H : Hp} {s s' : Shared}
/-- from a body: what a callee wants -/
theorem Inv.env0 (I : Inv X pins σ H s) : Env0 X.prog X.w X.K X.mg X.base X.A X.stack s H :=
  ⟨I.ok.frames, I.ok.mod, I.bs, Nat.le_trans I.ok.bsz I.sz, I.stack, I.stkFree, I.hok, I.bare⟩
/-- behind a call -/
theorem Inv.after {Q : VK} {u : Value} (I : Inv X pins σ H s) (h : CE X.stack X.prog X.w H s Q u s') : EP X pins σ Q u s' := by
  obtain ⟨v, H', os, bare, un, hok, r, q⟩ := h
  obtain ⟨hh, g, d, t, os'⟩ := s'
  obtain rfl : os' = s.os := os
  exact ⟨v, H', I.call (h' := hh) (g' := g) (d' := d) (t' := t) (ch := []) un hok bare (fun b z => absurd z (by simp)), r, q⟩
end

/-! ### calls -/
/-- f(..): the written arguments, then the defaults dvs; E: what is wanted of an exception -/
def tCall (sp : Sp) (dvs : List V) (E : XK) (t : TA) : TE := fun σ H Q => t σ H fun vs H1 => sp (vs ++ dvs) H1 Q E
/-- o.m(..) of an instance of the class at C -/
def tMeth (C : Addr) (m : Str) (sp : Sp) (dvs : List V) (E : XK) (ta : TE) (t : TA) : TE := fun σ H Q => ta σ H fun x H1 => ∃ a dx fs, x = .ref a ∧ H1 a = some (.ins C dx fs) ∧ fs.lookup m = none ∧
  t σ H1 fun vs H2 => sp (x :: (vs ++ dvs)) H2 Q E
/-- C(..): a new instance and its dict, then __init__ -/
def tMake (C : Addr) (sp : Sp) (dvs : List V) (E : XK) (t : TA) : TE := fun σ H Q => t σ H fun vs H1 => ∀ x dx, H1 x = none → H1 dx = none → dx ≠ x →
  sp (.ref x :: (vs ++ dvs)) (upd (upd H1 dx (.own x)) x (.ins C dx [])) (fun v H2 => v = .non ∧ Q (.ref x) H2) E

/-- how the parameters are bound: us the positional arguments, kw the keywords' values by name, ds the defaults that fill up -/
def Binds (K : PySem.W.Frag) (fd : FuncData) (ps : List Str) (ds : List Value) : Prop :=
  ∀ (s : Shared) (us : List Value), K.In s.heap → (us ++ ds).length = ps.length → BindsTo s fd ⟨us, []⟩ (ps.zip (us ++ ds))
/-- every parameter is given -/
theorem Binds.all {K : PySem.W.Frag} {fd : FuncData} {ps : List Str} (h : ∀ us : List Value, us.length = ps.length → bindArgs fd ⟨us, []⟩ = pure (ps.zip us)) : Binds K fd ps [] := fun s us _ hl => by
  rw [List.append_nil] at hl ⊢
  exact .of_eq (h us hl)

/-- an exception of a callee reaches what this body wants of exceptions -/
def Passes (CX : CXT) (X : Cx) (E : XK) : Prop := ∀ (pins : List (Addr × Obj)) (σ : St) (H : Hp) (s : Shared) (e : Value) (s' : Shared), Inv X pins σ H s → CX X.stack H s E e s' → X.xe e s'

section
variable {X : Cx} {CX : CXT} {k : Nat} {f C : Addr} {fd : FuncData} {ps : List Str} {sp : Sp} {dvs : List V} {ds : List Value} {E : XK} {x m : Str} {p pos apos : Pos} {e o : Expr} {es : List Expr} {ta : TE} {t : TA}

/-- the callee runs -/
theorem run_fn {pins : List (Addr × Obj)} {σ : St} {H : Hp} {s : Shared} {Q : VK} {us : List Value} {vs : List V} (F : FnOk X.prog X.w X.K X.mg X.base CX k f fd ps sp) (hr : Room k X.A) (hb : Binds X.K fd ps ds) (hd : Vals dvs ds) (hx : Passes CX X E)
    (I : Inv X pins σ H s) (r : Vals vs us) (h : sp (vs ++ dvs) H Q E) : wpAny (model X.prog X.w) X.A (call (.ref f) us) (EP X pins σ Q) X.xe s := by
  have r2 : Vals (vs ++ dvs) (us ++ ds) := r.append hd
  have hl : (us ++ ds).length = ps.length := by rw [← r2.length]; exact F.len _ _ _ _ h
  refine wpAny_call (codeAny_mono (F.run X.A X.stack s H ⟨us, []⟩ (us ++ ds) (vs ++ dvs) Q E hr I.env0 (hb s us I.kIn hl) r2 h) fun r s' hq => ?_)
  cases r with
  | error e => exact hx pins σ H s e s' I hq
  | ok fl =>
    cases fl with
    | ret u => exact I.after hq
    | next => exact False.elim hq
    | brk => exact False.elim hq
    | cont => exact False.elim hq

/-- what a class must have to be made -/
structure Mk (K : PySem.W.Frag) (C f : Addr) : Prop where
  makes : PySem.W.makesIn K C = true
  init : PySem.W.findIn K (.ref C) "__init__" = some (some (.ref f))
  fn : PySem.W.isFn K (.ref f) = true
  kp : PySem.W.keepIn K (.ref C) = true

theorem run_make {pins : List (Addr × Obj)} {σ : St} {H : Hp} {s : Shared} {Q : VK} {us : List Value} {vs : List V} (M : Mk X.K C f) (F : FnOk X.prog X.w X.K X.mg X.base CX k f fd ps sp) (hr : Room (k + 1) X.A) (hb : Binds X.K fd ps ds) (hd : Vals dvs ds)
    (hx : Passes CX X E) (I : Inv X pins σ H s) (r : Vals vs us)
    (h : ∀ x dx, H x = none → H dx = none → dx ≠ x → sp (.ref x :: (vs ++ dvs)) (upd (upd H dx (.own x)) x (.ins C dx [])) (fun v H2 => v = .non ∧ Q (.ref x) H2) E) :
    wpAny (model X.prog X.w) X.A (call (.ref C) us) (EP X pins σ Q) X.xe s := by
  have hq := h (s.heap.objs.size + 1) s.heap.objs.size (I.hok.fresh (Nat.le_succ _)) (I.hok.fresh (Nat.le_refl _)) (Nat.ne_of_lt (Nat.lt_succ_self _))
  have I2 := Inv.made (C := C) I
  have r2 : Vals (V.ref (s.heap.objs.size + 1) :: (vs ++ dvs)) (Value.ref (s.heap.objs.size + 1) :: (us ++ ds)) := .cons rfl (r.append hd)
  have hl : (Value.ref (s.heap.objs.size + 1) :: us ++ ds).length = ps.length := by
    have e := r2.length
    rw [F.len _ _ _ _ hq] at e
    exact e.symm
  refine wpAny_call (make_map (f := f) I.kIn M.makes M.init (beq_iff_eq.mp M.fn) (codeAny_mono (F.run _ X.stack _ _ ⟨Value.ref (s.heap.objs.size + 1) :: us, []⟩ (Value.ref (s.heap.objs.size + 1) :: (us ++ ds)) _ _ E (hr.make C us [])
    (I2.env0.make C us []) (hb _ (Value.ref (s.heap.objs.size + 1) :: us) I2.kIn hl) r2 hq) fun r s' hq' => ?_))
  cases r with
  | error e => exact hx pins σ _ _ e s' I2 hq'
  | ok fl =>
    cases fl with
    | ret u =>
      obtain ⟨v, H', I3, rv, ev, q3⟩ := I2.after hq'
      subst ev
      exact ⟨rv, ⟨V.ref (s.heap.objs.size + 1), H', I3, rfl, q3⟩⟩
    | next => exact False.elim hq'
    | brk => exact False.elim hq'
    | cont => exact False.elim hq'
theorem pe_make (M : Mk X.K C f) (F : FnOk X.prog X.w X.K X.mg X.base CX k f fd ps sp) (hr : Room (k + 1) X.A) (hg : Gl X x) (hm : X.mg x = some (.ref C)) (hb : Binds X.K fd ps ds) (hd : Vals dvs ds) (hx : Passes CX X E)
    (ha : PA X (e :: es) t) (hdb : (x == ("__debug__" : Str)) = false := by decide) (he : starEach (e :: es) X.env = (false, eval e X.env) :: starEach es X.env := by rfl) (hpl : (backTo pos (starEach es X.env)).any (·.1) = false := by rfl) :
    PE X (.Call (.Name x p) (e :: es) [] pos) (tMake C sp dvs E t) := by
  intro pins s σ H Q I h
  refine wpAny_Call_Name_kw (ld_glob I hg hm ?_ hdb)
  refine PySem.W.callWith_K (h₀ := X.base) I.ok.mod.kin M.kp (thn (ha pos pins s σ H _ I h) fun us s1 ⟨vs, H1, I1, r, q⟩ => ⟨I1.kIn, ?_⟩) he hpl
  exact run_make M F hr hb hd hx I1 r q
theorem pe_make0 (M : Mk X.K C f) (F : FnOk X.prog X.w X.K X.mg X.base CX k f fd ps sp) (hr : Room (k + 1) X.A) (hg : Gl X x) (hm : X.mg x = some (.ref C)) (hb : Binds X.K fd ps ds) (hd : Vals dvs ds) (hx : Passes CX X E)
    (hdb : (x == ("__debug__" : Str)) = false := by decide) : PE X (.Call (.Name x p) [] [] pos) (tMake C sp dvs E tNil) := by
  intro pins s σ H Q I h
  refine wpAny_Call_Name_kw (ld_glob I hg hm ?_ hdb)
  exact PySem.W.callWith_K0 I.kIn M.kp (run_make (us := []) M F hr hb hd hx I .nil h)
end

/-! ### keywords -/
/-- the values of the keywords, from the left -/
def PK (X : Cx) (kws : List Keyword) (t : TA) : Prop :=
  ∀ (pos : Pos) (pins : List (Addr × Obj)) (s : Shared) (σ : St) (H : Hp) (Q : List V → Hp → Prop), Inv X pins σ H s → t σ H Q → wpAny (model X.prog X.w) X.A (evalAll ((backToKw pos (keywordEach kws X.env)).map (·.2))) (AP X pins σ Q) X.xe s
section
variable {X : Cx} {CX : CXT} {k : Nat} {f C : Addr} {fd : FuncData} {ps ks : List Str} {sp : Sp} {E : XK} {x m : Str} {p pos apos kpos : Pos} {e o : Expr} {es : List Expr} {kws : List Keyword} {te ta : TE} {t tk : TA} {nm : Option Str}
theorem pk_nil : PK X [] tNil := fun _ _ _ _ H Q I h => wpAny_evalAll_nil ⟨[], H, I, .nil, h⟩
theorem pk_cons (ha : PE X e te) (hr : PK X kws t) : PK X (⟨nm, e, kpos⟩ :: kws) (tCons te t) := by
  intro pos pins s σ H Q I h
  show wpAny _ _ (evalAll ((do let v ← eval e X.env; standAt pos; pure v) :: (backToKw pos (keywordEach kws X.env)).map (·.2))) _ _ s
  refine wpAny_evalAll_cons (wpAny_bind (thn (ha pins s σ H _ I h) fun u s1 ⟨x, H1, I1, r1, q1⟩ => wpAny_bind (wpAny_standAt (wpAny_pure ?_))))
  exact thn (hr pos pins s1 σ H1 _ I1 q1) fun us s2 ⟨xs, H2, I2, r2, q2⟩ => ⟨x :: xs, H2, I2, .cons r1 r2, q2⟩

/-- how a call with keywords binds: g puts the positional values us and the keywords' values ws (names ks) in the parameters' order, defaults among them -/
structure KBinds (K : PySem.W.Frag) (fd : FuncData) (ps ks : List Str) (g : List Value → List Value → List Value) (gV : List V → List V → List V) : Prop where
  to : ∀ (s : Shared) (us ws : List Value), K.In s.heap → (g us ws).length = ps.length → BindsTo s fd ⟨us, ks.zip ws⟩ (ps.zip (g us ws))
  rel : ∀ {vs : List V} {us : List Value} {zs : List V} {ws : List Value}, Vals vs us → Vals zs ws → Vals (gV vs zs) (g us ws)
def tCallK (sp : Sp) (gV : List V → List V → List V) (E : XK) (t tk : TA) : TE := fun σ H Q => t σ H fun vs H1 => tk σ H1 fun zs H2 => sp (gV vs zs) H2 Q E
variable {g : List Value → List Value → List Value} {gV : List V → List V → List V}
end

/-! ### a def's body keeps its promise -/
/-- names: the parameters first -/
structure FnScope (N P : List Str) (sc : Scope) : Prop where
  kind : sc.kind = .function
  co : sc.isCoroutine = false
  gen : sc.isGenerator = false
  nd : N.Nodup
  pre : N.take P.length = P
  par : ∀ x ∈ P, sc.names.lookup x = some .local ∨ sc.names.lookup x = some .cell
  nofree : ∀ y ∈ sc.names, y.2 ≠ .free

theorem bindL_out {kindOf : Str → Option NameKind} {x : Str} : ∀ {binds : List (Str × Value)} {m : Str → Option Value}, (∀ v, (x, v) ∉ binds) → bindL kindOf binds m x = m x
  | [], _, _ => rfl
  | (n, v) :: r, m, h => by
    unfold bindL
    rw [bindL_out fun w hw => h w (List.mem_cons_of_mem _ hw)]
    split
    · have : x ≠ n := by rintro rfl; exact h v List.mem_cons_self
      simp [this]
    · rfl
theorem bindC_out {kindOf : Str → Option NameKind} {x : Str} : ∀ {binds : List (Str × Value)} {m : Str → Option Value}, (∀ v, (x, v) ∉ binds) → bindC kindOf binds m x = m x
  | [], _, _ => rfl
  | (n, v) :: r, m, h => by
    unfold bindC
    rw [bindC_out fun w hw => h w (List.mem_cons_of_mem _ hw)]
    split
    · rfl
    · have : x ≠ n := by rintro rfl; exact h v List.mem_cons_self
      simp [this]
theorem bindL_get {kindOf : Str → Option NameKind} {x : Str} {v : Value} : ∀ {P : List Str} {vs : List Value} {i : Nat} {m : Str → Option Value}, P.Nodup → P[i]? = some x → vs[i]? = some v → kindOf x = some .local →
    bindL kindOf (P.zip vs) m x = some v
  | [], _, _, _, _, h, _, _ => by simp at h
  | _ :: _, [], _, _, _, _, h, _ => by simp at h
  | p :: P, w :: vs, 0, m, nd, h1, h2, hk => by
    simp at h1 h2; subst h1; subst h2
    show bindL kindOf ((p, w) :: P.zip vs) m p = _
    unfold bindL
    rw [bindL_out fun v hv => (List.nodup_cons.mp nd).1 (List.of_mem_zip hv).1, if_pos hk]
    simp
  | p :: P, w :: vs, i + 1, m, nd, h1, h2, hk => by
    show bindL kindOf ((p, w) :: P.zip vs) m x = _
    unfold bindL
    exact bindL_get (i := i) (List.nodup_cons.mp nd).2 (by simpa using h1) (by simpa using h2) hk
theorem bindC_get {kindOf : Str → Option NameKind} {x : Str} {v : Value} : ∀ {P : List Str} {vs : List Value} {i : Nat} {m : Str → Option Value}, P.Nodup → P[i]? = some x → vs[i]? = some v → kindOf x ≠ some .local →
    bindC kindOf (P.zip vs) m x = some v
  | [], _, _, _, _, h, _, _ => by simp at h
  | _ :: _, [], _, _, _, _, h, _ => by simp at h
  | p :: P, w :: vs, 0, m, nd, h1, h2, hk => by
    simp at h1 h2; subst h1; subst h2
    show bindC kindOf ((p, w) :: P.zip vs) m p = _
    unfold bindC
    rw [bindC_out fun v hv => (List.nodup_cons.mp nd).1 (List.of_mem_zip hv).1, if_neg hk]
    simp
  | p :: P, w :: vs, i + 1, m, nd, h1, h2, hk => by
    show bindC kindOf ((p, w) :: P.zip vs) m x = _
    unfold bindC
    exact bindC_get (i := i) (List.nodup_cons.mp nd).2 (by simpa using h1) (by simpa using h2) hk

/-- the names' values at the entry -/
def start (N : List Str) (vs : List V) : St := vs.map some ++ List.replicate (N.length - vs.length) none

/-- the context of a def's body, at its entry; an exception leaves the frame, then lies as CX says -/
def cxOf (CX : CXT) (P : Program) (w : World) (K : PySem.W.Frag) (mg : Str → Option Value) (base : Heap) (N : List Str) (qual : Str) (scope : Scope) (f : Addr) (cd : Value) (A : Around) (outer : List Env) (s : Shared) (H : Hp) (E : XK) : Cx where
  prog := P
  w := w
  K := K
  mg := mg
  base := base
  A := A.deeper (envOfC qual scope s.heap.objs.size f cd)
  N := N
  s_0 := s
  H_0 := H
  env := envOfC qual scope s.heap.objs.size f cd
  outer := outer
  stack := envOfC qual scope s.heap.objs.size f cd :: outer
  ex := []
  calm := true
  fn := fun _ => true
  pn := []
  xe := fun e s' => wpAny (model P w) (A.deeper (envOfC qual scope s.heap.objs.size f cd)) (leaving (envOfC qual scope s.heap.objs.size f cd) e) (fun _ s'' => CX outer H s E e s'') (fun e' s'' => CX outer H s E e' s'') s'

theorem cell_has {sc : Scope} {n : Nat} {x : Str} (h : sc.names.lookup x = some .cell) : ∃ c, (cellsFrom n sc.names []).lookup x = some c := by
  have q := PySem.W.cellsFrom_some sc.names n [] (.inl h)
  exact Option.isSome_iff_exists.mp q

theorem inv_start {CX : CXT} {P : Program} {w : World} {K : PySem.W.Frag} {mg : Str → Option Value} {base : Heap} {N ps : List Str} {qual : Str} {scope : Scope} {f : Addr} {cd : Value} {A : Around} {outer : List Env} {s s1 : Shared} {H : Hp} {E : XK} {us : List Value} {vs : List V}
    (S : FnScope N ps scope) (hd : A.handled = none) (e0 : Env0 P w K mg base A outer s H) (hl : vs.length = ps.length) (r : Vals vs us)
    (x : InCallC s s.heap.objs.size (bindL (envOfC qual scope s.heap.objs.size f cd).kindOf (ps.zip us) fun _ => none) (cellsFrom (s.heap.objs.size + 1) scope.names []) (bindC (envOfC qual scope s.heap.objs.size f cd).kindOf (ps.zip us) fun _ => none) s1) :
    Inv (cxOf CX P w K mg base N qual scope f cd A outer s H E) [] (start N vs) H s1 := by
  have hpl : ps.length ≤ N.length := by have := congrArg List.length S.pre; rw [List.length_take] at this; omega
  obtain ⟨h1, tk, rfl, hk⟩ := x.done
  have noA : ∀ b : Addr, b ∉ (cxOf CX P w K mg base N qual scope f cd A outer s H E).ex := fun b z => absurd (show b ∈ ([] : List Addr) from z) (by simp)
  refine ⟨⟨e0.mod, S.kind, rfl, rfl, Nat.le_refl _, fun y z c h1 h2 => ?_, fun y hy => ?_, fun y c _ h => ?_, fun _ => hd, Around.frames_deeper e0.frames, .inr ⟨rfl, rfl⟩, fun b z => absurd z (noA b), e0.bs, e0.bsz, fun b _ _ => noA b, fun b z => absurd z (noA b), e0.funs, e0.frf⟩,
    rfl, e0.bare, Un.kept hk, ⟨_, x.toInCall.ns, fun i y v h1 h2 h3 => ?_⟩, fun y c h => ⟨_, x.cell y c h⟩, e0.hok.fresh (Nat.le_refl _), fun y c h => ?_, fun p hp => absurd (show p ∈ ([] : List (Addr × Obj)) from hp) (by simp), e0.hok.kept hk, ?_⟩
  · exact name_of_addr x.apart (PySem.mem_of_lookup h1) (PySem.mem_of_lookup h2)
  · have hy : scope.names.lookup y = some .cell ∨ scope.names.lookup y = some .free := hy
    rcases hy with hy | hy
    · exact cell_has hy
    · exact absurd rfl (S.nofree _ (PySem.mem_of_lookup hy))
  · exact Nat.le_of_lt (x.above y c (PySem.mem_of_lookup h))
  · have hi : i < vs.length := by
      unfold start at h2
      by_cases hi : i < vs.length
      · exact hi
      · rw [List.getElem?_append_right (by simpa using hi)] at h2
        rw [List.getElem?_replicate] at h2
        split at h2 <;> cases h2
    have ha : vs[i]? = some v := by
      unfold start at h2
      rw [List.getElem?_append_left (by simpa using hi), List.getElem?_map] at h2
      cases e : vs[i]? with
      | none => rw [e] at h2; cases h2
      | some a => rw [e] at h2; cases h2; rfl
    obtain ⟨u, hu, rv⟩ := r.get ha
    have hp : ps[i]? = some y := by
      rw [← S.pre, List.getElem?_take_of_lt (by omega)]; exact h1
    have ndP : ps.Nodup := by rw [← S.pre]; exact S.nd.sublist (List.take_sublist _ _)
    refine ⟨u, rv, ?_⟩
    rcases S.par y (List.mem_of_getElem? hp) with k | k
    · exact .inl ⟨k, bindL_get ndP hp hu k⟩
    · obtain ⟨c, e⟩ := cell_has (n := s.heap.objs.size + 1) k
      refine .inr ⟨.inl k, c, e, ?_⟩
      have q := x.cell y c e
      rw [bindC_get ndP hp hu (by show scope.names.lookup y ≠ _; rw [k]; decide)] at q
      exact q
  · exact e0.hok.fresh (Nat.le_of_lt (x.above y c (PySem.mem_of_lookup h)))
  · unfold start
    show _ = N.length
    rw [List.length_append, List.length_map, List.length_replicate]
    omega

/-- THE RULE: a def (or a method) of the text, by its body. The body's reading t is chosen for each entry; it is run at the parameters' values -/
theorem fn_of {CX : CXT} {P : Program} {w : World} {K : PySem.W.Frag} {mg : Str → Option Value} {base : Heap} {k : Nat} {f : Addr} {name qual : Str} {params : Arguments} {body : List Stmt} {scope : Scope} {dV kV doc pm cdv ct oc : Value} {an od : Option Addr}
    {osl : Array (Option Value)} {N ps : List Str} {sp : Sp} (lk : K.lookup f = some ⟨oc, od, .func (PySem.W.fnOf name qual params body scope dV kV doc pm an cdv ct), osl⟩) (hcd : PySem.W.codeIn K cdv qual = true) (S : FnScope N ps scope)
    (len : ∀ vs H Q E, sp vs H Q E → vs.length = ps.length)
    (hbody : ∀ (A : Around) (outer : List Env) (s : Shared) (H : Hp) (vs : List V) (Q : VK) (E : XK), Room k (A.deeper (envOfC qual scope s.heap.objs.size f cdv)) → sp vs H Q E →
      ∃ t, PSs (cxOf CX P w K mg base N qual scope f cdv A outer s H E) body t ∧ t { nx := fun _ H' => Q .non H', rt := Q } (start N vs) H) :
    FnOk P w K mg base CX (k + 1) f (PySem.W.fnOf name qual params body scope dV kV doc pm an cdv ct) ps sp := by
  refine ⟨len, fun A outer s H args us vs Q E hr e0 hb r hsp => ?_⟩
  have hl := len _ _ _ _ hsp
  have KX : K.In s.heap := e0.mod.kin.keeps fun b o e => (e0.bs b o e).1
  have lim : s.heap.NoLimit := e0.mod.nolimit.keeps fun b o e => (e0.bs b o e).1
  have hkind : ∀ y ∈ ps.zip us, scope.names.lookup y.1 = some .local ∨ (scope.names.lookup y.1 = some .cell ∧ ((cellsFrom (s.heap.objs.size + 1) scope.names []).lookup y.1).isSome = true) := fun ⟨n, v⟩ hy => by
    rcases S.par n (List.of_mem_zip hy).1 with q | q
    · exact .inl q
    · exact .inr ⟨q, PySem.W.cellsFrom_some _ _ _ (.inl q)⟩
  refine codeAny_call_function hr.depth (KX _ _ lk) rfl S.co S.gen rfl (PySem.W.codeRec_of KX hcd) (hb _ _ _ _ ?_)
  refine wpAny_newFunctionEnv_cells S.kind hkind fun env he s1 x => ?_
  subst he
  refine ⟨lim.keeps x.toInCall.keep, codeAny_func ?_⟩
  obtain ⟨t, ht, hq⟩ := hbody A outer s H vs Q E (hr.deeper _) hsp
  have I : Inv (cxOf CX P w K mg base N qual scope f cdv A outer s H E) [] (start N vs) H s1 := inv_start S hr.hd e0 hl r x
  refine wpAny_mono (ht [] s1 (start N vs) H _ I hq) (fun fl s' hs => ?_) fun e s' hs => hs
  have fin : ∀ {σ' : St} {H' : Hp} {v : V} {u : Value}, Inv (cxOf CX P w K mg base N qual scope f cdv A outer s H E) [] σ' H' s' → RelV v u → Q v H' → CE outer P w H s Q u s' :=
    fun {σ' H' v u} J rv q => ⟨v, H', J.os, J.bare, J.base, J.hok, rv, q⟩
  cases fl with
  | ret u =>
    obtain ⟨v, σ', H', J, rv, q⟩ := hs
    exact fin J rv q
  | next =>
    obtain ⟨σ', H', J, q⟩ := hs
    exact fin (v := V.non) (u := Value.none) J rfl q
  | brk =>
    obtain ⟨_, _, _, q⟩ := hs
    exact False.elim q
  | cont =>
    obtain ⟨_, _, _, q⟩ := hs
    exact False.elim q
end L2

namespace L2
open PySem PySem.Spec PyProof.Rows
section
variable {X : Cx} {x : Str} {p pos : Pos} {e : Expr} {es : List Expr} {t : TA} {id T : String} {r : List V → Hp → VK → Prop}

def tCB (r : List V → Hp → VK → Prop) (t : TA) : TE := fun σ H Q => t σ H fun vs H1 => r vs H1 Q
/-- f(e, ..), f a built-in function -/
theorem pe_callB (hc : CallR X (.builtin id) r) (hg : Gl X x) (hm : X.mg x = none) (hv : bootBuiltins x = some (.builtin id)) (ha : PA X (e :: es) t) (hn : x ≠ "__name__" := by decide) (hdb : (x == ("__debug__" : Str)) = false := by decide)
    (he : starEach (e :: es) X.env = (false, eval e X.env) :: starEach es X.env := by rfl) (hpl : (backTo pos (starEach es X.env)).any (·.1) = false := by rfl) : PE X (.Call (.Name x p) (e :: es) [] pos) (tCB r t) := by
  intro pins s σ H Q I h
  refine wpAny_Call_Name_kw (ld_blt I hg hm hv ?_ hn hdb)
  exact PyProof.Rows.callWith_builtin1 (thn (ha pos pins s σ H _ I h) fun us s1 ⟨vs, H1, I1, r1, q1⟩ => hc pins s1 σ H1 vs us Q I1 r1 q1) he hpl
/-- T(e, ..), T a built-in type -/
theorem pe_callTy (hc : CallR X (.type T) r) (hg : Gl X x) (hm : X.mg x = none) (hv : bootBuiltins x = some (.type T)) (ha : PA X (e :: es) t) (hn : x ≠ "__name__" := by decide) (hdb : (x == ("__debug__" : Str)) = false := by decide)
    (he : starEach (e :: es) X.env = (false, eval e X.env) :: starEach es X.env := by rfl) (hpl : (backTo pos (starEach es X.env)).any (·.1) = false := by rfl) : PE X (.Call (.Name x p) (e :: es) [] pos) (tCB r t) := by
  intro pins s σ H Q I h
  refine wpAny_Call_Name_kw (ld_blt I hg hm hv ?_ hn hdb)
  exact PyProof.Rows.callWith_type1 (thn (ha pos pins s σ H _ I h) fun us s1 ⟨vs, H1, I1, r1, q1⟩ => hc pins s1 σ H1 vs us Q I1 r1 q1) he hpl
end
end L2

namespace HT
open PySem PyProof.Rows

/-- t < u of tuples of ints -/
def lexLt : List Int → List Int → Bool
  | [], [] => false
  | [], _ :: _ => true
  | _ :: _, [] => false
  | x :: xs, y :: ys => if x = y then lexLt xs ys else decide (x < y)
section
open PySem.SeqAt
open PySem.AutoSeq1 (wpAny_loadPart')
open PySem.MeetsSeq PySem.MeetsSeq2 PySem.MeetsSeq3

end

section
variable {prog : Program} {w : World} {A : Around} {E : Value → Shared → Prop} {s : Shared}

/-! ### t[a:b], not the whole -/
/-- a slice's bound as a place among n (d where it is left out) -/
def sIx (n d : Nat) : Option Int → Nat
  | none => d
  | some v => if v < 0 then (v + (n : Int)).toNat else min v.toNat n
theorem sIx_none (n d : Nat) : sIx n d none = d := rfl
theorem sIx_nat (n d k : Nat) : sIx n d (some (k : Int)) = min k n := by
  show (if (k : Int) < 0 then ((k : Int) + (n : Int)).toNat else min (k : Int).toNat n) = min k n
  rw [if_neg (by omega), Int.toNat_natCast]
end
end HT

namespace L2
open PySem PySem.Spec PyProof.Rows

/-! ### the parts of a slice -/
abbrev TO := St → Hp → (Option Int → Hp → Prop) → Prop
/-- a slice's part (left out, or an int) -/
def PO (X : Cx) (e : Option Expr) (t : TO) : Prop :=
  ∀ (pins : List (Addr × Obj)) (s : Shared) (σ : St) (H : Hp) (Q : Option Int → Hp → Prop), Inv X pins σ H s → t σ H Q →
    wpAny (model X.prog X.w) X.A (evalPart e X.env) (fun u s' => ∃ o H', Inv X pins σ H' s' ∧ IsPart u o ∧ Q o H') X.xe s
def tNoPart : TO := fun _ H Q => Q none H
def tPart (t : TE) : TO := fun σ H Q => t σ H fun x H1 => ∃ i, x = .int i ∧ Q (some i) H1

section
variable {X : Cx} {e : Expr} {te : TE} {lo hi : Option Expr} {tl th : TO} {pos p2 : Pos}

theorem po_none : PO X none tNoPart := by
  intro pins s σ H Q I h
  rw [evalPart_none]
  exact wpAny_pure ⟨none, H, I, .none, h⟩
theorem po_some (h : PE X e te) : PO X (some e) (tPart te) := by
  intro pins s σ H Q I hw
  rw [evalPart_some]
  refine thn (h pins s σ H _ I hw) fun u s1 ⟨x, H1, I1, r1, q1⟩ => ?_
  obtain ⟨i, rfl, q⟩ := q1
  obtain ⟨t, rfl⟩ := r1
  exact ⟨some i, H1, I1, .int i t, q⟩

/-- what a slice of a value is, by values: the slice object stands at sl -/
def SlR (X : Cx) (r : V → Option Int → Option Int → Hp → VK → Prop) : Prop :=
  ∀ (pins : List (Addr × Obj)) (s : Shared) (σ : St) (H : Hp) (x : V) (v vl vu : Value) (lo hi : Option Int) (sl : Addr) (Q : VK), Inv X pins σ H s → RelV x v → s.heap.IsSliceOf sl vl vu .none → IsPart vl lo → IsPart vu hi → r x lo hi H Q →
    ∃ T id, typeLookup (.type T) "__getitem__" = pure (some (.builtin id)) ∧ s.TypeIs v T ∧ wpAny (model X.prog X.w) X.A (getItem v (.ref sl)) (EP X pins σ Q) X.xe s
def tSl (r : V → Option Int → Option Int → Hp → VK → Prop) (te : TE) (tl th : TO) : TE := fun σ H Q => te σ H fun x H1 => tl σ H1 fun l H2 => th σ H2 fun u H3 => r x l u H3 Q
/-- a[lo:hi], any a -/
theorem pe_slice {r : V → Option Int → Option Int → Hp → VK → Prop} (hr : SlR X r) (he : PE X e te) (hl : PO X lo tl) (hu : PO X hi th) : PE X (.Subscript e (.Slice lo hi none p2) pos) (tSl r te tl th) := by
  intro pins s σ H Q I h
  refine Subscript_ (thn (he pins s σ H _ I h) fun v s1 ⟨x, H1, I1, r1, q1⟩ => ?_)
  refine wpAny_Slice (thn (hl pins s1 σ H1 _ I1 q1) fun vl s2 ⟨l, H2, I2, pl, q2⟩ => thn (hu pins s2 σ H2 _ I2 q2) fun vu s3 ⟨u, H3, I3, pu, q3⟩ => ?_)
  rw [evalPart_none]
  refine wpAny_pure ?_
  have I4 : Inv X pins σ H3 { s3 with heap := s3.heap.push { cls := .type "slice", data := .fields #[vl, vu, .none] } } := I3.kept (t' := s3.toks) fun b ob q => Heap.get?_push_of_some _ q
  obtain ⟨T, id, hT, ht, hg⟩ := hr pins { s3 with heap := s3.heap.push { cls := .type "slice", data := .fields #[vl, vu, .none] } } σ H3 x v vl vu l u s3.heap.objs.size Q I4 r1 (Heap.IsSliceOf.new ..) pl pu q3
  show wpAny (model X.prog X.w) X.A (subscriptTail e (.Slice lo hi none p2) v (.ref s3.heap.objs.size)) (EP X pins σ Q) X.xe { s3 with heap := s3.heap.push { cls := .type "slice", data := .fields #[vl, vu, .none] } }
  exact tail_any (ops := [.ref s3.heap.objs.size, v]) ht hT hg (by with_unfolding_all rfl)

/-- the items of xs[lo:hi] -/
def cutV (xs : List V) (lo hi : Option Int) : List V := (xs.drop (HT.sIx xs.length 0 lo)).take (HT.sIx xs.length xs.length hi - HT.sIx xs.length 0 lo)
theorem cutV_length (xs : List V) (lo hi : Option Int) : (cutV xs lo hi).length ≤ xs.length := by
  unfold cutV
  rw [List.length_take, List.length_drop]
  omega
/-- t[lo:hi], not the whole of it (the whole would be t itself) -/
def rSlT (K : PySem.W.Frag) : V → Option Int → Option Int → Hp → VK → Prop := fun x lo hi H Q => ∃ a xs, x = .ref a ∧ SqT K H a xs ∧
  ¬ (HT.sIx xs.length 0 lo = 0 ∧ HT.sIx xs.length xs.length hi = xs.length) ∧ ∀ p, H p = none → Q (.ref p) (upd H p (.tup (cutV xs lo hi)))
/-! ### t < u, t + u -/
def rLtT (K : PySem.W.Frag) : R2 := fun x y H Q => ∃ a b ns ms, x = .ref a ∧ y = .ref b ∧ SqT K H a (ns.map V.int) ∧ SqT K H b (ms.map V.int) ∧ Q (.bl (HT.lexLt ns ms)) H
/-- t + u, t not empty: u empty gives t itself -/
def rCatT (K : PySem.W.Frag) : R2 := fun x y H Q => ∃ a b xs ys, x = .ref a ∧ y = .ref b ∧ SqT K H a xs ∧ SqT K H b ys ∧ xs ≠ [] ∧ xs.length + ys.length ≤ sizeLine ∧
  (ys = [] → Q (.ref a) H) ∧ (ys ≠ [] → ∀ p, H p = none → Q (.ref p) (upd H p (.tup (xs ++ ys))))
end
end L2

namespace L2
open PySem PySem.Spec PyProof.Rows

/-! ### places -/
/-- the place that an index of any sign means -/
def ixN (n : Nat) (i : Int) : Option Nat := if 0 ≤ i then (if i < n then some i.toNat else none) else if -(n : Int) ≤ i then some (i + n).toNat else none
def atI {α : Type} (xs : List α) (i : Int) : Option α := (ixN xs.length i).bind fun j => xs[j]?
theorem ixN_seq {n : Nat} {i : Int} {j : Nat} (h : ixN n i = some j) : seqIndex? i n = some j ∧ j < n ∧ -(n : Int) ≤ i ∧ i < n := by
  unfold ixN at h
  by_cases h0 : 0 ≤ i
  · rw [if_pos h0] at h
    by_cases h1 : i < n
    · rw [if_pos h1] at h
      have e : i.toNat = j := Option.some.inj h
      exact ⟨by rw [seqIndex_of h0 h1, e], by omega, by omega, h1⟩
    · rw [if_neg h1] at h; cases h
  · rw [if_neg h0] at h
    by_cases h1 : -(n : Int) ≤ i
    · rw [if_pos h1] at h
      have e : (i + n).toNat = j := Option.some.inj h
      exact ⟨by rw [seqIndex_neg (by omega) h1, e], by omega, h1, by omega⟩
    · rw [if_neg h1] at h; cases h
theorem atI_get {α : Type} {xs : List α} {i : Int} {v : α} (h : atI xs i = some v) : ∃ j, seqIndex? i xs.length = some j ∧ xs[j]? = some v ∧ j < xs.length ∧ -(xs.length : Int) ≤ i ∧ i < xs.length := by
  unfold atI at h
  cases e : ixN xs.length i with
  | none => rw [e] at h; cases h
  | some j =>
    rw [e] at h
    obtain ⟨h1, h2, h3, h4⟩ := ixN_seq e
    exact ⟨j, h1, h, h2, h3, h4⟩
theorem atI_nat {α : Type} {xs : List α} {j : Nat} {v : α} (h : xs[j]? = some v) : atI xs (j : Int) = some v := by
  have hj : j < xs.length := (List.getElem?_eq_some_iff.mp h).1
  have e : ixN xs.length (j : Int) = some j := by
    unfold ixN
    rw [if_pos (by omega), if_pos (by omega)]; simp
  unfold atI; rw [e]; exact h
theorem atI_last {α : Type} (xs : List α) (v : α) : atI (xs ++ [v]) (-1) = some v := by
  have hl : (xs ++ [v]).length = xs.length + 1 := by simp
  have e : ixN (xs ++ [v]).length (-1) = some xs.length := by
    unfold ixN
    rw [hl, if_neg (by decide), if_pos (by omega)]
    congr 1
    omega
  unfold atI
  rw [e]
  show (xs ++ [v])[xs.length]? = some v
  simp

/-! ### what may be subscripted -/
/-- what stands as an index of a plain subscript -/
def PlainIx (b : Expr) : Prop := ∀ o i, subscripted b false o i = operate [o, i] (getItem o i)
/-- a subscript by values -/
def IxR (X : Cx) (r : R2) : Prop :=
  ∀ (value slice : Expr) (pins : List (Addr × Obj)) (s : Shared) (σ : St) (H : Hp) (x y : V) (v u : Value) (Q : VK), Inv X pins σ H s → RelV x v → RelV y u → r x y H Q →
    subscripted slice false v u = operate [v, u] (getItem v u) → wpAny (model X.prog X.w) X.A (subscriptTail value slice v u) (EP X pins σ Q) X.xe s
/-- a call of a builtin's method by values: the receiver, the arguments -/
def MtR (X : Cx) (id : String) (r : V → List V → Hp → VK → Prop) : Prop :=
  ∀ (pins : List (Addr × Obj)) (s : Shared) (σ : St) (H : Hp) (x : V) (xs : List V) (v : Value) (us : List Value) (Q : VK), Inv X pins σ H s → RelV x v → Vals xs us → r x xs H Q →
    wpAny (model X.prog X.w) X.A (call (.builtin id) (v :: us)) (EP X pins σ Q) X.xe s
section
variable {X : Cx} {a b : Expr} {ta tb : TE} {pos : Pos}
/-- a[b] -/
theorem pe_ix {r : R2} (hr : IxR X r) (ha : PE X a ta) (hb : PE X b tb) (hs : PlainIx b) : PE X (.Subscript a b pos) (tOp r ta tb) := by
  intro pins s σ H Q I h
  exact Subscript_ (binT ha hb I h fun v u s2 x y H2 I2 rx ry q => hr a b pins s2 σ H2 x y v u Q I2 rx ry q (hs _ _))

def rIxL (K : PySem.W.Frag) : R2 := fun x y H Q => ∃ p xs i v, x = .ref p ∧ y = .int i ∧ SqL K H p xs ∧ atI xs i = some v ∧ Q v H
def rIxT (K : PySem.W.Frag) : R2 := fun x y H Q => ∃ p xs i v, x = .ref p ∧ y = .int i ∧ SqT K H p xs ∧ atI xs i = some v ∧ Q v H
def rIxS : R2 := fun x y H Q => ∃ z i c, x = .str z ∧ y = .int i ∧ z.length ≤ sizeLine ∧ atI z.cps.toList i = some c ∧ Q (.str ⟨#[c]⟩) H
theorem ix_list : IxR X (rIxL X.K) := by
  intro value slice pins s σ H x y v u Q I rx ry h hs
  obtain ⟨p, xs, i, z, rfl, rfl, hq, he, q⟩ := h
  cases rx
  obtain ⟨t, rfl⟩ := ry
  obtain ⟨its, r, pl, hz⟩ := I.list hq
  obtain ⟨j, h1, h2, h3, h4, h5⟩ := atI_get he
  obtain ⟨w, ew, rw'⟩ := r.get h2
  have hl := r.length
  have hn := line63
  have fin : EP X pins σ Q w s := ⟨z, H, I, rw', q⟩
  by_cases h0 : 0 ≤ i
  · have hj : i.toNat = j := by
      rw [seqIndex_of h0 h5] at h1
      exact Option.some.inj h1
    exact item_listR pl.isList h0 (by omega) (by rw [hj]; simpa using ew) fin hs
  · have hj : (i + (its.toArray.size : Int)).toNat = j := by
      rw [seqIndex_neg (by omega) h4] at h1
      rw [List.size_toArray, ← hl]
      exact Option.some.inj h1
    exact subscriptTail_builtinR (x := w) pl.isList.typeIs slot_list_getitem.lookup
      (wpAny_getItem_list_neg (Q := fun r s' => r = w ∧ EP X pins σ Q r s') pl.isList (by omega) (by rw [List.size_toArray] <;> omega) (by omega) (by rw [hj]; simpa using ew) ⟨rfl, fin⟩) hs
theorem ix_tup : IxR X (rIxT X.K) := by
  intro value slice pins s σ H x y v u Q I rx ry h hs
  obtain ⟨p, xs, i, z, rfl, rfl, hq, he, q⟩ := h
  cases rx
  obtain ⟨t, rfl⟩ := ry
  obtain ⟨its, r, pl, hz⟩ := I.tuple hq
  obtain ⟨j, h1, h2, h3, h4, h5⟩ := atI_get he
  obtain ⟨w, ew, rw'⟩ := r.get h2
  have hl := r.length
  have hn := line63
  have fin : EP X pins σ Q w s := ⟨z, H, I, rw', q⟩
  exact subscriptTail_builtinR (x := w) pl.typeIs slot_tuple_getitem.lookup
    (getItem_tuple (j := j) (Q := fun r s' => r = w ∧ EP X pins σ Q r s') pl (by omega) (by omega) (by rw [List.size_toArray, ← hl]; exact h1) (by simpa using ew) ⟨rfl, fin⟩) hs
/-- list, tuple or str -/
def rIx (K : PySem.W.Frag) : R2 := fun x y H Q => rIxL K x y H Q ∨ rIxT K x y H Q ∨ rIxS x y H Q
/-! ### xs[i] = v, any sign -/
def rSetL : V → V → V → Hp → (Hp → Prop) → Prop := fun o i v H Q => ∃ p xs k j, o = .ref p ∧ i = .int k ∧ H p = some (.lst xs) ∧ ixN xs.length k = some j ∧ Q (upd H p (.lst (xs.set j v)))
/-! ### slices -/
theorem slice_bounds (lo hi : Option Int) (n : Nat) : (sliceBounds lo hi none n).1 = ((HT.sIx n 0 lo : Nat) : Int) ∧ (sliceBounds lo hi none n).2.1 = ((HT.sIx n n hi : Nat) : Int) ∧ (sliceBounds lo hi none n).2.2 = 1 := by
  refine ⟨?_, ?_, rfl⟩
  · cases lo with
    | none => simp [sliceBounds, HT.sIx]
    | some i =>
      simp only [sliceBounds, HT.sIx, Option.getD_none, show (1 : Int) > 0 by decide, if_true]
      by_cases h : i < 0
      · simp only [h, if_true] <;> omega
      · simp only [h, if_false] <;> omega
  · cases hi with
    | none => simp [sliceBounds, HT.sIx]
    | some i =>
      simp only [sliceBounds, HT.sIx, Option.getD_none, show (1 : Int) > 0 by decide, if_true]
      by_cases h : i < 0
      · simp only [h, if_true] <;> omega
      · simp only [h, if_false] <;> omega
theorem slicePick_cut (its : List Value) (lo hi : Option Int) : slicePick its.toArray lo hi none = ((its.drop (HT.sIx its.length 0 lo)).take (HT.sIx its.length its.length hi - HT.sIx its.length 0 lo)).toArray := by
  obtain ⟨h1, h2, h3⟩ := slice_bounds lo hi its.toArray.size
  unfold slicePick
  rw [h1, h2, h3]
  simp only [sliceRange_one, pick_run, List.size_toArray] <;> rfl
/-- xs[lo:hi] of a list: a new list -/
def rSlL (K : PySem.W.Frag) : V → Option Int → Option Int → Hp → VK → Prop := fun x lo hi H Q => ∃ a xs, x = .ref a ∧ SqL K H a xs ∧ ∀ p, H p = none → Q (.ref p) (upd H p (.lst (cutV xs lo hi)))
theorem sl_list : SlR X (rSlL X.K) := by
  intro pins s σ H x v vl vu lo hi sl Q I rx hs pl pu h
  obtain ⟨a, xs, rfl, hx, q⟩ := h
  cases rx
  obtain ⟨its, r, ht, hz⟩ := I.list hx
  have hlen := r.length
  refine ⟨"list", _, slot_list_getitem.lookup, ht.isList.typeIs, ?_⟩
  refine wpAny_getItem_list_slice ht.isList hs pl pu .none (by simp) ?_ (by rw [List.size_toArray] <;> omega)
  rw [slicePick_cut, ← hlen]
  refine ⟨.ref s.heap.objs.size, _, I.laid (t' := s.toks) (o := .lst (cutV xs lo hi)) (fun b ob q => Heap.get?_push_of_some _ q) (Nat.le_refl _) ?_, rfl, q _ (I.hok.fresh (Nat.le_refl _))⟩
  exact ⟨Nat.le_trans (cutV_length xs lo hi) hz, _, 0, (r.drop (HT.sIx xs.length 0 lo)).take (HT.sIx xs.length xs.length hi - HT.sIx xs.length 0 lo), Heap.get?_push_size _ rfl⟩

/-! ### in, not in: flat items -/
def flatV : V → Bool
  | .non => true
  | .bl _ => true
  | .int _ => true
  | .str _ => true
  | _ => false
/-- == of flat values -/
def eqV : V → V → Bool
  | .non, .non => true
  | .bl a, .bl b => a == b
  | .bl a, .int b => (if a then 1 else 0) == b
  | .int a, .bl b => a == (if b then 1 else 0)
  | .int a, .int b => a == b
  | .str a, .str b => a == b
  | _, _ => false
theorem eqAt_V {A : Around} {s : Shared} {y x : V} {u v : Value} (ry : RelV y u) (rx : RelV x v) (fy : flatV y = true) (fx : flatV x = true) : SeqAt.EqAt A s u v (eqV y x) := by
  cases y with
  | non =>
    cases ry
    cases x with
    | non => cases rx; exact SeqAt.EqAt.same _
    | bl b => cases rx; exact SeqAt.EqAt.none_bool b
    | int b => obtain ⟨t, rfl⟩ := rx; exact SeqAt.EqAt.none_int b t
    | str b => obtain ⟨t, rfl⟩ := rx; exact SeqAt.EqAt.none_str b t
    | _ => exact absurd (show false = true from fx) Bool.false_ne_true
  | bl a =>
    cases ry
    cases x with
    | non => cases rx; exact SeqAt.EqAt.bool_none a
    | bl b => cases rx; exact SeqAt.EqAt.bool_bool a b
    | int b => obtain ⟨t, rfl⟩ := rx; exact SeqAt.EqAt.bool_int a b t
    | str b => obtain ⟨t, rfl⟩ := rx; exact SeqAt.EqAt.bool_str a b t
    | _ => exact absurd (show false = true from fx) Bool.false_ne_true
  | int a =>
    obtain ⟨t', rfl⟩ := ry
    cases x with
    | non => cases rx; exact SeqAt.EqAt.int_none a t'
    | bl b => cases rx; exact SeqAt.EqAt.int_bool a t' b
    | int b => obtain ⟨t, rfl⟩ := rx; exact SeqAt.EqAt.int_int a t' b t
    | str b => obtain ⟨t, rfl⟩ := rx; exact SeqAt.EqAt.int_str a t' b t
    | _ => exact absurd (show false = true from fx) Bool.false_ne_true
  | str a =>
    obtain ⟨t', rfl⟩ := ry
    cases x with
    | non => cases rx; exact SeqAt.EqAt.str_none a t'
    | bl b => cases rx; exact SeqAt.EqAt.str_bool a t' b
    | int b => obtain ⟨t, rfl⟩ := rx; exact SeqAt.EqAt.str_int a t' b t
    | str b => obtain ⟨t, rfl⟩ := rx; exact SeqAt.EqAt.str_str a t' b t
    | _ => exact absurd (show false = true from fx) Bool.false_ne_true
  | _ => exact absurd (show false = true from fy) Bool.false_ne_true
/-- the items' answers, read off the values (a value's own answer does not lean on its token) -/
def eqU (x : V) (u : Value) : Bool := match u with
  | .none => eqV .non x
  | .bool b => eqV (.bl b) x
  | .int i _ => eqV (.int i) x
  | .str z _ => eqV (.str z) x
  | _ => false
theorem eqU_of {x y : V} {u : Value} (r : RelV y u) (f : flatV y = true) : eqU x u = eqV y x := by
  cases y with
  | non => cases r; rfl
  | bl b => cases r; rfl
  | int i => obtain ⟨t, rfl⟩ := r; rfl
  | str z => obtain ⟨t, rfl⟩ := r; rfl
  | _ => exact absurd (show false = true from f) Bool.false_ne_true
theorem mem_eqAt {A : Around} {s : Shared} {x : V} {v : Value} (rx : RelV x v) (fx : flatV x = true) : ∀ {xs : List V} {us : List Value}, Vals xs us → xs.all flatV = true → ∀ u ∈ us, SeqAt.EqAt A s u v (eqU x u)
  | _, _, .nil, _ => fun u hu => by cases hu
  | y :: xs, u :: us, .cons r t, f => fun u' hu => by
    rw [List.all_cons, Bool.and_eq_true] at f
    rcases List.mem_cons.mp hu with rfl | hu
    · rw [eqU_of r f.1]; exact eqAt_V r rx f.1 fx
    · exact mem_eqAt rx fx t f.2 u' hu
def inV (x : V) (xs : List V) : Bool := xs.any fun y => eqV y x
/-- x in a list or tuple of flat items -/
def rIn (K : PySem.W.Frag) (neg : Bool) : R2 := fun x y H Q => ∃ p xs, y = .ref p ∧ (SqL K H p xs ∨ SqT K H p xs) ∧ flatV x = true ∧ xs.all flatV = true ∧ Q (.bl (if neg then !inV x xs else inV x xs)) H
/-! ### len, list(x), tuple(x) of any list or tuple that is read -/
theorem call_len_seq : CallR X (.builtin "len") (fun xs H Q => ∃ p ys, xs = [.ref p] ∧ (SqL X.K H p ys ∨ SqT X.K H p ys) ∧ Q (.int ys.length) H) := by
  intro pins s σ H xs us Q I r h
  obtain ⟨p, ys, rfl, hq, q⟩ := h
  obtain ⟨u, rfl, rx⟩ := vals1 r
  cases rx
  have hn := line63
  rcases hq with hq | hq
  · obtain ⟨its, r', pl, hz⟩ := I.list hq
    have hlen := r'.length
    exact Calls.call_len_list pl.isList (by simp only [List.size_toArray] <;> omega) ⟨.int ys.length, H, I.tok _, ⟨s.toks + 1, by rw [List.size_toArray, hlen]⟩, q⟩
  · obtain ⟨its, r', pl, hz⟩ := I.tuple hq
    have hlen := r'.length
    exact len_tuple pl (by simp only [List.size_toArray] <;> omega) ⟨.int ys.length, H, I.tok _, ⟨s.toks + 1, by rw [List.size_toArray, hlen]⟩, q⟩
/-! ### the call of a builtin's method: o.m(..) -/
/-- the value is of that builtin type -/
def tyV (K : PySem.W.Frag) (T : String) (x : V) (H : Hp) : Prop := match x with
  | .str _ => T = "str"
  | .int _ => T = "int"
  | .ref p => (T = "list" ∧ ∃ xs, SqL K H p xs) ∨ (T = "tuple" ∧ ∃ o, K.lookup p = some o ∧ o.cls = .type "tuple" ∧ o.dict = none) ∨
      (T = "dict" ∧ ((∃ kvs, H p = some (.dK kvs)) ∨ ∃ kvs, H p = some (.dT kvs))) ∨ (T = "set" ∧ ∃ S n, H p = some (.set S n))
  | _ => False
theorem tyV_is {pins : List (Addr × Obj)} {σ : St} {H : Hp} {s : Shared} {T : String} {x : V} {v : Value} (I : Inv X pins σ H s) (r : RelV x v) (ty : tyV X.K T x H) :
    s.TypeIs v T ∧ ∀ a, v = .ref a → ∃ ob, s.heap.get? a = some ob ∧ ob.dict = none := by
  cases x with
  | str z =>
    obtain ⟨t, rfl⟩ := r
    cases (show T = "str" from ty)
    exact ⟨typeIs_str s z t, fun _ e => nomatch e⟩
  | int i =>
    obtain ⟨t, rfl⟩ := r
    cases (show T = "int" from ty)
    exact ⟨typeIs_int s i t, fun _ e => nomatch e⟩
  | ref p =>
    cases r
    rcases ty with ⟨rfl, xs, hq⟩ | ⟨rfl, o, hk, hc, hd⟩ | ⟨rfl, hk⟩ | ⟨rfl, S, n, hk⟩
    · obtain ⟨its, _, pl, _⟩ := I.list hq
      refine ⟨pl.isList.typeIs, fun a e => ?_⟩
      cases e
      obtain ⟨o, n, e, c, hd, _⟩ := pl
      exact ⟨o, e, hd⟩
    · refine ⟨⟨o, I.kIn p o hk, hc⟩, fun a e => ?_⟩
      cases e
      exact ⟨o, I.kIn _ o hk, hd⟩
    · have z : ∃ o, s.heap.get? p = some o ∧ o.ExactDict := by
        rcases hk with ⟨kvs, hk⟩ | ⟨kvs, hk⟩
        · obtain ⟨_, _, _, _, o, _, _, e, ex, _⟩ := I.hok p _ hk
          exact ⟨o, e, ex⟩
        · obtain ⟨_, _, _, _, o, _, _, e, ex, _⟩ := I.hok p _ hk
          exact ⟨o, e, ex⟩
      obtain ⟨o, e, ex⟩ := z
      refine ⟨⟨o, e, ex.1⟩, fun a e2 => ?_⟩
      cases e2
      exact ⟨o, e, ex.2.1⟩
    · obtain ⟨o, _, _, _, e, ex, _⟩ := I.hok p _ hk
      refine ⟨⟨o, e, ex.1⟩, fun a e2 => ?_⟩
      cases e2
      exact ⟨o, e, ex.2.1⟩
  | _ => exact False.elim ty
def tBM0 (K : PySem.W.Frag) (T : String) (r : V → List V → Hp → VK → Prop) (to : TE) : TE := fun σ H Q => to σ H fun x H1 => tyV K T x H1 ∧ r x [] H1 Q
def tBM (K : PySem.W.Frag) (T : String) (r : V → List V → Hp → VK → Prop) (to : TE) (t : TA) : TE := fun σ H Q => to σ H fun x H1 => tyV K T x H1 ∧ t σ H1 fun xs H2 => r x xs H2 Q
variable {o e : Expr} {es : List Expr} {to : TE} {t : TA} {name : Str} {apos cpos : Pos} {T id : String} {r : V → List V → Hp → VK → Prop}
theorem pe_bm (pa : PlainAttrs T) (slot : Slot T name id) (hty : typeOf (.builtin id) = pure (.type "method_descriptor")) (hm : MtR X id r) (ho : PE X o to) (ha : PA X (e :: es) t)
    (hbase : attributeBase o name X.env (eval o X.env) = eval o X.env := by rfl)
    (hfew : ((backTo cpos (starEach (e :: es) X.env)).all (fun x => !x.1) && (backToKw cpos (keywordEach [] X.env)).all (fun x => x.1.isSome)
      && decide ((e :: es).length + ([] : List Keyword).length + (if ([] : List Keyword).isEmpty then 0 else 1) < 30)) = true := by rfl)
    (hline : (apos.endLine == cpos.line) = true := by rfl) (hs : starEach (e :: es) X.env = (false, eval e X.env) :: starEach es X.env := by rfl) (hplain : (backTo cpos (starEach es X.env)).any (·.1) = false := by rfl) :
    PE X (.Call (.Attribute o name apos) (e :: es) [] cpos) (tBM X.K T r to t) := by
  intro pins s σ H Q I h
  refine wpAny_Call_method_late hbase hfew hline rfl (thn (ho pins s σ H _ I h) fun v s1 ⟨x, H1, I1, r1, ty, q1⟩ => ?_)
  obtain ⟨h1, h2⟩ := tyV_is I1 r1 ty
  refine ⟨T, id, pa, slot, hty, h1, h2, ?_⟩
  have hA := ha cpos pins s1 σ H1 _ I1 q1
  rw [hs] at hA ⊢
  refine Calls.callWith_builtin (by show (false || (backTo cpos (starEach es X.env)).any (·.1)) = false; rw [hplain] <;> rfl) (Calls.evalArgs_plain ?_)
  exact thn hA fun us s2 ⟨vs, H2, I2, r2, q2⟩ => hm pins s2 σ H2 x vs v us Q I2 r1 r2 q2
/- xs.append(e), list.index on a module's tuple .. are MtR facts of 06m -/
end
end L2

namespace L2
open PySem PySem.Spec PyProof.Rows

def MtM (X : Cx) (id : String) (r : V → List V → Hp → VK → Prop) : Prop :=
  ∀ (pins : List (Addr × Obj)) (s : Shared) (σ : St) (H : Hp) (x : V) (xs : List V) (v : Value) (us : List Value) (Q : VK), Inv X pins σ H s → RelV x v → Vals xs us → r x xs H Q →
    wpAny (model X.prog X.w) X.A (call (.builtin id) (v :: us)) (EP X pins σ Q) X.xe s

/-! ### lists of values -/
theorem Vals.one : ∀ {x : V} {us : List Value}, Vals [x] us → ∃ u, us = [u] ∧ RelV x u
  | _, _, .cons r .nil => ⟨_, rfl, r⟩
theorem Vals.rep {xs : List V} {us : List Value} (h : Vals xs us) : ∀ k : Nat, Vals (List.replicate k xs).flatten (List.replicate k us).flatten
  | 0 => .nil
  | k + 1 => by
    rw [List.replicate_succ, List.replicate_succ, List.flatten_cons, List.flatten_cons]
    exact Vals.append h (Vals.rep h k)
theorem foldl_rep (its : List Value) : ∀ (k : Nat) (acc : List Value),
    List.foldl (fun x1 x2 => x1 ++ x2) acc.toArray (List.replicate k its.toArray) = (acc ++ (List.replicate k its).flatten).toArray
  | 0, acc => by simp
  | k + 1, acc => by
    have e : acc.toArray ++ its.toArray = (acc ++ its).toArray := by simp
    have e2 : (acc ++ its) ++ (List.replicate k its).flatten = acc ++ (List.replicate (k + 1) its).flatten := by
      rw [List.replicate_succ, List.flatten_cons, List.append_assoc]
    rw [← e2, ← foldl_rep its k (acc ++ its), ← e, List.replicate_succ, List.foldl_cons]

section
variable {X : Cx} {pins : List (Addr × Obj)} {σ : St} {H : Hp} {s : Shared} {l b : Addr} {xs ys zs : List V}

/-! ### the two steps: a tracked list is rewritten, a new list is laid -/
theorem Inv.lset {its its' : List Value} {n : Nat} {f : Array Value → Array Value} {t' : Nat} (I : Inv X pins σ H s) (hH : H l = some (.lst xs))
    (e : s.heap.get? l = some { cls := .type "list", data := .seq its.toArray n }) (hf : f its.toArray = its'.toArray) (hv : Vals ys its') (hz : ys.length ≤ sizeLine) :
    Inv X pins σ (upd H l (.lst ys)) { s with heap := s.heap.update l (Obj.mapSeq f), toks := t' } := by
  have q := PySem.IsL.update e f
  rw [hf] at q
  refine I.write (x := l) (e := l) (by rw [hH]; exact trivial) (.inl rfl) (fun b' u hb hu => (Heap.get?_update_other s.heap (Obj.mapSeq f) (Ne.symm hb)).trans hu) ⟨_, q⟩ ?_
  exact ⟨hz, its', _, hv, q⟩
theorem Inv.lnew {its : List Value} {t' : Nat} (I : Inv X pins σ H s) (hv : Vals ys its) (hz : ys.length ≤ sizeLine) :
    Inv X pins σ (upd H s.heap.objs.size (.lst ys)) { s with heap := s.heap.push { cls := .type "list", data := .seq its.toArray }, toks := t' } :=
  I.laid (fun _ _ q => Heap.get?_push_of_some _ q) (Nat.le_refl _) ⟨hz, its, 0, hv, Heap.get?_push_size _ rfl⟩
theorem Inv.fresh (I : Inv X pins σ H s) : H s.heap.objs.size = none := I.hok.fresh (Nat.le_refl _)
theorem Inv.lstM (I : Inv X pins σ H s) (hH : H l = some (.lst xs)) : xs.length ≤ sizeLine ∧ ∃ (its : List Value) (n : Nat), Vals xs its ∧ xs.length = its.length ∧ s.heap.get? l = some { cls := .type "list", data := .seq its.toArray n } := by
  obtain ⟨z, its, n, r, e⟩ := I.hok l _ hH
  exact ⟨z, its, n, r, r.length, e⟩

theorem notLongL {n : Nat} (h : n ≤ sizeLine) : Builtin.List.listTooLong n = false := by
  unfold Builtin.List.listTooLong
  exact decide_eq_false (by omega)
end

section
variable {X : Cx}

/-! ### methods -/
def rAppend : V → List V → Hp → VK → Prop := fun x vs H Q => ∃ l xs y, x = .ref l ∧ vs = [y] ∧ H l = some (.lst xs) ∧ xs.length < sizeLine ∧ Q .non (upd H l (.lst (xs ++ [y])))
theorem mt_append : MtM X "list.append" rAppend := by
  intro pins s σ H x vs v us Q I rx rv h
  obtain ⟨l, xs, y, rfl, rfl, hH, hz, q⟩ := h
  cases rx
  obtain ⟨u, rfl, ru⟩ := rv.one
  obtain ⟨z, its, n, r, hl, e⟩ := I.lstM hH
  refine call_meets F.slot_list_append ⟨_, e, rfl⟩ F.entry_list_append (F.args_list_append_2 _ _) (PySem.list_append l its.toArray n u (by rw [List.size_toArray]; omega)) ⟨e, ?_⟩
  refine ⟨.non, _, I.lset (its' := its ++ [u]) hH e (by simp) (r.append (.cons ru .nil)) ?_, rfl, q⟩
  rw [List.length_append, List.length_singleton]
  omega

def rExtend : V → List V → Hp → VK → Prop := fun x vs H Q => ∃ l b xs zs, x = .ref l ∧ vs = [.ref b] ∧ H l = some (.lst xs) ∧ H b = some (.lst zs) ∧ xs.length + zs.length ≤ sizeLine ∧ Q .non (upd H l (.lst (xs ++ zs)))
theorem mt_extend : MtM X "list.extend" rExtend := by
  intro pins s σ H x vs v us Q I rx rv h
  obtain ⟨l, b, xs, zs, rfl, rfl, hH, hB, hz, q⟩ := h
  cases rx
  obtain ⟨u, rfl, ru⟩ := rv.one
  cases ru
  obtain ⟨z, its, n, r, hl, e⟩ := I.lstM hH
  obtain ⟨z2, its2, n2, r2, hl2, e2⟩ := I.lstM hB
  have hsz : its.toArray.size + its2.toArray.size ≤ sizeLine := by rw [List.size_toArray, List.size_toArray]; omega
  have hlong : ¬ (!its.toArray.isEmpty && Builtin.List.listTooLong (its.toArray.size + its2.toArray.size)) = true := by
    rw [notLongL hsz, Bool.and_false]
    exact Bool.false_ne_true
  refine call_meets F.slot_list_extend ⟨_, e, rfl⟩ F.entry_list_extend (F.args_list_extend_2 _ _)
    (AutoSeq1.list_extend_list_list_0 l its.toArray n b its2.toArray n2 hlong (by rw [List.size_toArray]; omega) (by omega)) ⟨e, e2, ?_⟩
  refine ⟨.non, _, I.lset (its' := its ++ its2) hH e (by simp) (r.append r2) ?_, rfl, q⟩
  rw [List.length_append]
  omega

def rPop : V → List V → Hp → VK → Prop := fun x vs H Q => ∃ l xs y, x = .ref l ∧ vs = [] ∧ H l = some (.lst xs) ∧ xs[xs.length - 1]? = some y ∧ Q y (upd H l (.lst xs.dropLast))
def rPopAt : V → List V → Hp → VK → Prop := fun x vs H Q => ∃ l xs i k y, x = .ref l ∧ vs = [.int i] ∧ H l = some (.lst xs) ∧ -(2 ^ 63) ≤ i ∧ i < 2 ^ 63 ∧ seqIndex? i xs.length = some k ∧ xs[k]? = some y ∧ Q y (upd H l (.lst (xs.eraseIdx k)))
def rReverse : V → List V → Hp → VK → Prop := fun x vs H Q => ∃ l xs, x = .ref l ∧ vs = [] ∧ H l = some (.lst xs) ∧ Q .non (upd H l (.lst xs.reverse))
def rClear : V → List V → Hp → VK → Prop := fun x vs H Q => ∃ l xs, x = .ref l ∧ vs = [] ∧ H l = some (.lst xs) ∧ Q .non (upd H l (.lst []))
/-! ### list + list, list += list, list * int -/
def rCat : R2 := fun x y H Q => ∃ l b xs zs, x = .ref l ∧ y = .ref b ∧ H l = some (.lst xs) ∧ H b = some (.lst zs) ∧ xs.length + zs.length ≤ sizeLine ∧ ∀ p, H p = none → Q (.ref p) (upd H p (.lst (xs ++ zs)))
theorem op_cat : OpR X (binaryOp .Add) rCat := by
  intro pins s σ H x y v u Q I rx ry h
  obtain ⟨l, b, xs, zs, rfl, rfl, hH, hB, hz, q⟩ := h
  cases rx
  cases ry
  obtain ⟨z, its, n, r, hl, e⟩ := I.lstM hH
  obtain ⟨z2, its2, n2, r2, hl2, e2⟩ := I.lstM hB
  refine PySem.P.add_list e e2 ?_ (by rw [List.size_toArray, List.size_toArray]; omega)
  have ea : its.toArray ++ its2.toArray = (its ++ its2).toArray := by simp
  rw [ea]
  exact ⟨.ref _, _, I.lnew (t' := s.toks) (r.append r2) (by rw [List.length_append]; omega), rfl, q _ I.fresh⟩
/-- a list times an int (a negative one is nothing) -/
def rRep : R2 := fun x y H Q => ∃ l k xs, x = .ref l ∧ y = .int k ∧ H l = some (.lst xs) ∧ -(2 ^ 63) ≤ k ∧ k < 2 ^ 63 ∧ xs.length * k.toNat ≤ sizeLine ∧
  ∀ p, H p = none → Q (.ref p) (upd H p (.lst (List.replicate k.toNat xs).flatten))
theorem len_rep {α : Type} (xs : List α) (k : Nat) : (List.replicate k xs).flatten.length = k * xs.length := by
  induction k with
  | zero => simp
  | succ k ih => rw [List.replicate_succ, List.flatten_cons, List.length_append, ih, Nat.succ_mul, Nat.add_comm]
theorem op_rep : OpR X (binaryOp .Mult) rRep := by
  intro pins s σ H x y v u Q I rx ry h
  obtain ⟨l, k, xs, rfl, rfl, hH, h1, h2, hz, q⟩ := h
  cases rx
  obtain ⟨t, rfl⟩ := ry
  obtain ⟨z, its, n, r, hl, e⟩ := I.lstM hH
  have hlen : its.toArray.size * k.toNat ≤ sizeLine := by rw [List.size_toArray, ← hl]; exact hz
  have hcap : ¬ its.toArray.size * k.toNat > (2 ^ 63 - 1) / 8 := by
    have : (sizeLine : Nat) ≤ (2 ^ 63 - 1) / 8 := by decide
    omega
  have hfit : ¬ (!Builtin.List.listFitsIndex k) = true := by
    rw [fitsIndex_both h1 h2]
    exact Bool.false_ne_true
  have hlong : ¬ Builtin.List.listTooLong (its.toArray.size * k.toNat) = true := by
    rw [notLongL hlen]
    exact Bool.false_ne_true
  have hnew : List.foldl (fun x1 x2 => x1 ++ x2) #[] (List.replicate (if its.toArray.isEmpty = true then 0 else k.toNat) its.toArray) = (List.replicate k.toNat its).flatten.toArray := by
    have f0 : ∀ m : Nat, List.foldl (fun x1 x2 => x1 ++ x2) #[] (List.replicate m its.toArray) = (List.replicate m its).flatten.toArray := fun m => by
      have := foldl_rep its m []
      rw [List.nil_append] at this
      exact this
    rw [f0]
    cases its with
    | nil => simp
    | cons a r' => rw [if_neg (by simp)]
  refine wpAny_binaryOp_repeat_ref (T := "list") (U := "int") (by decide) ⟨_, e, rfl⟩ (fun s' => typeIs_int s' k t) noFill_list_mul F.fills_int_mul F.slot_int_rmul repeat_list F.slot_int_index.lookup
    (call_meets F.slot_int_rmul (typeIs_int s k t) F.entry_int_rmul (F.args_int_rmul_2 _ _) (int___rmul___int_list k t l its.toArray n)
      ⟨e, rfl, ⟨_, e, rfl⟩, call_meets F.slot_list_mul ⟨_, e, rfl⟩ F.entry_list_mul (F.args_list_mul_2 _ _) (AutoListH.list___mul___list_int_3 l its.toArray n k t hfit hcap hlong) ⟨e, ?_⟩⟩)
  rw [hnew]
  exact ⟨.ref _, _, I.lnew (t' := s.toks) (r.rep k.toNat) (by rw [len_rep, Nat.mul_comm]; exact hz), rfl, q _ I.fresh⟩

/-! ### del xs[i] -/
end

/-! ### xs[a:b] = ys -/
section
variable {prog : Program} {w : World} {A : Around} {E : Value → Shared → Prop} {s : Shared}
end

section
variable {X : Cx}
end
end L2

namespace L2
open PySem PySem.Spec PyProof.Rows

theorem Vals.ints : ∀ {ns : List Int} {us : List Value}, Vals (ns.map V.int) us → IntsAre us ns
  | [], us, h => by
    rw [List.map_nil] at h
    cases h
    exact IntsAre.nil
  | n :: ns, us, h => by
    rw [List.map_cons] at h
    cases h with
    | cons r t =>
      obtain ⟨k, rfl⟩ := r
      exact IntsAre.cons n k (Vals.ints t)
theorem Vals.ref1 {a : Addr} {us : List Value} (r : Vals [V.ref a] us) : us = [Value.ref a] := by
  cases r with
  | cons r t =>
    cases t
    cases r
    rfl
theorem Vals.int2 {i j : Int} {us : List Value} (r : Vals [V.int i, V.int j] us) : ∃ t u, us = [Value.int i t, Value.int j u] := by
  cases r with
  | cons r t =>
    cases t with
    | cons r2 t2 =>
      cases t2
      obtain ⟨t, rfl⟩ := r
      obtain ⟨u, rfl⟩ := r2
      exact ⟨t, u, rfl⟩

/-! ### the library's walks over a list of ints, kept objects alone -/
section
variable {prog : Program} {w : World} {A : Around} {E : Value → Shared → Prop} {s : Shared} {l : Addr} {its : List Value} {ns : List Int} {Q : Value → Shared → Prop}
theorem sum_raw (hh : A.handled = none) (hl : s.heap.IsList l its.toArray) (hi : IntsAre its ns)
    (h : ∀ h' tk t', (∀ b o, s.heap.get? b = some o → h'.get? b = some o) → Q (.int ns.sum t') { s with heap := h', toks := tk }) : wpAny (model prog w) A (call (.builtin "sum") [.ref l]) Q E s := by
  obtain ⟨xs, e⟩ := hi.allInts.items
  have hn : numsOf (intItems xs).toList = ns := by rw [← e]; exact hi.numsOf
  rw [nums_intItems] at hn
  rw [e] at hl
  refine PySem.sum_intListG hh hl fun h' tk t' hk => ?_
  have := h h' tk t' hk
  rw [preSum_eq, List.take_of_length_le (by simp), hn]; exact this
theorem min_raw (hh : A.handled = none) (hl : s.heap.IsList l its.toArray) (hi : IntsAre its ns) (hne : 0 < ns.length)
    (h : ∀ h' tk M t', (∀ b o, s.heap.get? b = some o → h'.get? b = some o) → M ∈ ns → (∀ a, a ∈ ns → M ≤ a) → Q (.int M t') { s with heap := h', toks := tk }) : wpAny (model prog w) A (call (.builtin "min") [.ref l]) Q E s := by
  obtain ⟨xs, e⟩ := hi.allInts.items
  have hn : numsOf (intItems xs).toList = ns := by rw [← e]; exact hi.numsOf
  rw [nums_intItems] at hn
  subst hn
  rw [e] at hl
  have hsz : 0 < xs.size := by simpa using hne
  refine PySem.min_intList hh hl hsz fun v h' tk hv hk => ?_
  obtain ⟨t, rfl⟩ := intItems_at hv
  obtain ⟨h1, h2⟩ := argBest_lt (numAt xs) (xs.size - 1)
  refine h h' tk _ t hk ?_ fun a ha => ?_
  · rw [numAt_eq]; exact PySem.getD_mem (by rw [List.length_map, Array.length_toList]; omega)
  · obtain ⟨j, hj, rfl⟩ := mem_getD ha
    rw [List.length_map, Array.length_toList] at hj
    rw [← numAt_eq]; exact h2 j (by omega)
end

/-! ### the calls, by values (CallR of 03t; MtR of 06l) -/
section
variable {X : Cx}
/-- sum(xs) of a list of ints -/
def rSum (K : PySem.W.Frag) : List V → Hp → VK → Prop := fun vs H Q => ∃ (a : Addr) (ns : List Int), vs = [V.ref a] ∧ SqL K H a (ns.map V.int) ∧ Q (.int ns.sum) H
/-- max(xs), min(xs) of a list of ints -/
def rMax (K : PySem.W.Frag) : List V → Hp → VK → Prop := fun vs H Q => ∃ (a : Addr) (ns : List Int), vs = [V.ref a] ∧ SqL K H a (ns.map V.int) ∧ 0 < ns.length ∧ ∀ m, m ∈ ns → (∀ y, y ∈ ns → y ≤ m) → Q (.int m) H
def rMin (K : PySem.W.Frag) : List V → Hp → VK → Prop := fun vs H Q => ∃ (a : Addr) (ns : List Int), vs = [V.ref a] ∧ SqL K H a (ns.map V.int) ∧ 0 < ns.length ∧ ∀ m, m ∈ ns → (∀ y, y ∈ ns → m ≤ y) → Q (.int m) H
theorem cr_sum (hc : X.calm = true) : CallR X (.builtin "sum") (rSum X.K) := by
  intro pins s σ H vs us Q I r h
  obtain ⟨a, ns, rfl, hs, q⟩ := h
  obtain ⟨its, rv, hl, _⟩ := I.list hs
  rw [Vals.ref1 r]
  exact sum_raw (I.ok.hd hc) hl.isList rv.ints fun h' tk t' hk => ⟨.int _, H, I.kept hk, ⟨_, rfl⟩, q⟩
theorem cr_min (hc : X.calm = true) : CallR X (.builtin "min") (rMin X.K) := by
  intro pins s σ H vs us Q I r h
  obtain ⟨a, ns, rfl, hs, hne, q⟩ := h
  obtain ⟨its, rv, hl, _⟩ := I.list hs
  rw [Vals.ref1 r]
  exact min_raw (I.ok.hd hc) hl.isList rv.ints hne fun h' tk m t' hk h1 h2 => ⟨.int _, H, I.kept hk, ⟨_, rfl⟩, q m h1 h2⟩

/-! sorted, sort (fewer than 64 items: the library's own bound) -/
def rSorted (K : PySem.W.Frag) : List V → Hp → VK → Prop := fun vs H Q => ∃ (a : Addr) (ns : List Int), vs = [V.ref a] ∧ SqL K H a (ns.map V.int) ∧ ns.length < 64 ∧
  ∀ (ns' : List Int) (p : Addr), ns'.Perm ns → ns'.Pairwise (· ≤ ·) → H p = none → Q (.ref p) (upd H p (.lst (ns'.map V.int)))
def rSortedS (K : PySem.W.Frag) : List V → Hp → VK → Prop := fun vs H Q => ∃ (a : Addr) (xs : List Str), vs = [V.ref a] ∧ SqL K H a (xs.map V.str) ∧ xs.length < 64 ∧
  ∀ (ys : List Str) (p : Addr), ys.Perm xs → sortedS ys = true → H p = none → Q (.ref p) (upd H p (.lst (ys.map V.str)))
/-- xs.sort(), ints -/
def rSort : V → List V → Hp → VK → Prop := fun x xs H Q => ∃ (a : Addr) (ns : List Int), x = V.ref a ∧ xs = [] ∧ H a = some (.lst (ns.map V.int)) ∧ ns.length < 64 ∧
  ∀ ns' : List Int, ns'.Perm ns → ns'.Pairwise (· ≤ ·) → Q .non (upd H a (.lst (ns'.map V.int)))
end

/-! ### list.index, flat items -/
section
variable {X : Cx}
def rIndex (K : PySem.W.Frag) : V → List V → Hp → VK → Prop := fun x xs H Q => ∃ (a : Addr) (ys : List V) (y : V) (j : Nat) (z : V), x = V.ref a ∧ xs = [y] ∧ SqL K H a ys ∧ flatV y = true ∧ ys.all flatV = true ∧ ys[j]? = some z ∧ eqV z y = true ∧
  (∀ (m : Nat) (z' : V), m < j → ys[m]? = some z' → eqV z' y = false) ∧ Q (.int (j : Nat)) H
theorem flat_at {ys : List V} (f : ys.all flatV = true) {j : Nat} {z : V} (h : ys[j]? = some z) : flatV z = true := List.all_eq_true.mp f z (List.mem_of_getElem? h)
theorem mt_index : MtR X "list.index" (rIndex X.K) := by
  intro pins s σ H x xs v us Q I rx rxs h
  obtain ⟨a, ys, y, j, z, rfl, rfl, hs, fy, fys, hz, hzj, hno, q⟩ := h
  cases rx
  cases rxs with
  | cons ry rt =>
    rename_i uy ut
    cases rt
    obtain ⟨its, rv, ⟨⟨cls, dd, data, sl⟩, n, ho, hc, hdn, hd⟩, hlen⟩ := I.list hs
    simp only at hc hd
    subst hc hd
    obtain ⟨u, hu, ru⟩ := rv.get hz
    obtain ⟨hjl, hje⟩ := List.getElem?_eq_some_iff.mp hu
    have hvl := rv.length
    have hj : j < its.toArray.size := by simpa using hjl
    have hsl := sizeLine_eq
    refine call_meets PySem.F.slot_list_index ⟨_, ho, rfl⟩ PySem.F.entry_list_index (PySem.F.args_list_index_2 _ _)
      (SeqAt.list_indexAt a its.toArray n dd sl uy (eqU y) j hj (by omega) ?_ ?_) ⟨ho, fun u' hu' => mem_eqAt ry fy rv fys u' (by simpa using hu'), ?_⟩
    · have e1 : its.toArray[j] = u := by simpa using hje
      rw [e1, eqU_of ru (flat_at fys hz)]
      exact hzj
    · intro m hm hmj
      have hml : m < its.length := by simpa using hm
      have hmy : m < ys.length := by omega
      have hy' : ys[m]? = some ys[m] := List.getElem?_eq_getElem hmy
      obtain ⟨u2, hu2, ru2⟩ := rv.get hy'
      obtain ⟨_, hme⟩ := List.getElem?_eq_some_iff.mp hu2
      have e1 : its.toArray[m] = u2 := by simpa using hme
      rw [e1, eqU_of ru2 (flat_at fys hy')]
      exact hno m _ hmj hy'
    · exact ⟨.int (j : Nat), H, I.tok _, ⟨_, rfl⟩, q⟩
end

/-! ### type(x) of an own instance; is, is not of a module's class -/
section
variable {X : Cx}
end

/-! ### any(xs), all(xs) of a list of bools -/
section
variable {X : Cx}
def rAny (K : PySem.W.Frag) : List V → Hp → VK → Prop := fun vs H Q => ∃ (a : Addr) (bs : List Bool), vs = [V.ref a] ∧ SqL K H a (bs.map V.bl) ∧ Q (.bl (bs.any id)) H
def rAll (K : PySem.W.Frag) : List V → Hp → VK → Prop := fun vs H Q => ∃ (a : Addr) (bs : List Bool), vs = [V.ref a] ∧ SqL K H a (bs.map V.bl) ∧ Q (.bl (bs.all id)) H
end

/-! ### == and != of data at any depth: none, bools, ints, texts, lists, tuples -/
mutual
inductive Dp (K : PySem.W.Frag) (H : Hp) : V → PyData → Prop
  | non : Dp K H .non .none
  | bl (b : Bool) : Dp K H (.bl b) (.bool b)
  | int (i : Int) : Dp K H (.int i) (.int i)
  | str (x : Str) : Dp K H (.str x) (.str x)
  | lst {a : Addr} {xs : List V} {ds : List PyData} : SqL K H a xs → DpAll K H xs ds → Dp K H (.ref a) (.list ds)
  | tup {a : Addr} {xs : List V} {ds : List PyData} : SqT K H a xs → DpAll K H xs ds → Dp K H (.ref a) (.tuple ds)
inductive DpAll (K : PySem.W.Frag) (H : Hp) : List V → List PyData → Prop
  | nil : DpAll K H [] []
  | cons {v : V} {vs : List V} {d : PyData} {ds : List PyData} : Dp K H v d → DpAll K H vs ds → DpAll K H (v :: vs) (d :: ds)
end
section
variable {X : Cx} {pins : List (Addr × Obj)} {σ : St} {H : Hp} {s : Shared}
end
section
variable {X : Cx}
def rEqD (K : PySem.W.Frag) : R2 := fun x y H Q => ∃ d e, Dp K H x d ∧ Dp K H y e ∧ SeqAt.shaped d = true ∧ SeqAt.shaped e = true ∧ Q (.bl (PyData.eqv d e)) H
def rNeD (K : PySem.W.Frag) : R2 := fun x y H Q => ∃ d e, Dp K H x d ∧ Dp K H y e ∧ SeqAt.shaped d = true ∧ SeqAt.shaped e = true ∧ Q (.bl (!PyData.eqv d e)) H
end
end L2

namespace L2
open PySem PySem.Spec PyProof.Rows
abbrev CellAt (h : Heap) (c : Addr) (v : Option Value) : Prop := h.IsCell c v
def relS (scope sc : Scope) : Scope :=
  { scope with names := scope.names.map fun (n, k) => if (k == .free && sc.kind == .function && sc.names.lookup n == some .cell) then (n, .cell) else (n, k) }

def cloFrom (cells : List (Str × Addr)) : List (Str × NameKind) → List (Str × Addr) → List (Str × Addr)
  | [], acc => acc
  | (n, k) :: r, acc => if k == .free then cloFrom cells r ((n, (cells.lookup n).getD 0) :: acc) else cloFrom cells r acc

theorem closure_loop (env : Env) (f : Str × NameKind → List (Str × Addr) → Sem (ForInStep (List (Str × Addr))))
    (hf : ∀ n k c, f (n, k) c = if k == .free then (do let a ← cellOf env n; pure (.yield ((n, a) :: c))) else pure (.yield c)) :
    ∀ (names : List (Str × NameKind)) (acc : List (Str × Addr)), (∀ y ∈ names, y.2 = .free → ∃ c, env.cells.lookup y.1 = some c) → forIn names acc f = pure (cloFrom env.cells names acc)
  | [], acc, _ => by rw [List.forIn_nil]; rfl
  | (n, k) :: r, acc, h => by
    rw [List.forIn_cons, hf]
    have ih := fun acc => closure_loop env f hf r acc fun y hy => h y (List.mem_cons_of_mem _ hy)
    unfold cloFrom
    by_cases hk : (k == NameKind.free) = true
    · rw [if_pos hk, if_pos hk]
      obtain ⟨c, hc⟩ := h (n, k) List.mem_cons_self (by simpa using hk)
      have e : cellOf env n = pure c := by unfold cellOf; rw [hc]
      rw [e]
      have e2 : (env.cells.lookup n).getD 0 = c := by rw [hc]; rfl
      rw [e2]
      exact ih _
    · rw [if_neg hk, if_neg hk]
      exact ih _
theorem closure_ok {scope : Scope} {env : Env} (h : ∀ y ∈ scope.names, y.2 = .free → ∃ c, env.cells.lookup y.1 = some c) : closureFor scope env = pure (cloFrom env.cells scope.names []) := by
  simp only [closureFor]
  rw [closure_loop env _ (fun n k c => rfl) scope.names [] h]
  rfl

theorem mem_lookup {α : Type} : ∀ {l : List (Str × α)} {n : Str} {c : α}, (n, c) ∈ l → ∃ c', l.lookup n = some c'
  | (k, v) :: r, n, c, h => by
    rw [List.lookup_cons]
    cases hb : n == k with
    | true => exact ⟨_, rfl⟩
    | false =>
      rcases List.mem_cons.mp h with e | h
      · cases e; simp at hb
      · exact mem_lookup h

theorem cloFrom_mem {cells : List (Str × Addr)} : ∀ {names : List (Str × NameKind)} {acc : List (Str × Addr)} {n : Str} {c : Addr}, (n, c) ∈ cloFrom cells names acc → (n, c) ∈ acc ∨ ((n, .free) ∈ names ∧ c = (cells.lookup n).getD 0)
  | [], _, _, _, h => .inl h
  | (m, k) :: r, acc, n, c, h => by
    unfold cloFrom at h
    split at h
    · rename_i hk
      have hk : k = .free := by simpa using hk
      rcases cloFrom_mem h with h | ⟨h1, h2⟩
      · rcases List.mem_cons.mp h with e | h
        · cases e; exact .inr ⟨hk ▸ List.mem_cons_self, rfl⟩
        · exact .inl h
      · exact .inr ⟨List.mem_cons_of_mem _ h1, h2⟩
    · rcases cloFrom_mem h with h | ⟨h1, h2⟩
      · exact .inl h
      · exact .inr ⟨List.mem_cons_of_mem _ h1, h2⟩
theorem cloFrom_acc {cells : List (Str × Addr)} : ∀ {names : List (Str × NameKind)} {acc : List (Str × Addr)} {p : Str × Addr}, p ∈ acc → p ∈ cloFrom cells names acc
  | [], _, _, h => h
  | (m, k) :: r, acc, p, h => by
    unfold cloFrom
    split
    · exact cloFrom_acc (List.mem_cons_of_mem _ h)
    · exact cloFrom_acc h
theorem cloFrom_has {cells : List (Str × Addr)} : ∀ {names : List (Str × NameKind)} {acc : List (Str × Addr)} {n : Str}, (n, .free) ∈ names → (n, (cells.lookup n).getD 0) ∈ cloFrom cells names acc
  | (m, k) :: r, acc, n, h => by
    unfold cloFrom
    rcases List.mem_cons.mp h with e | h
    · cases e
      exact cloFrom_acc List.mem_cons_self
    · split
      · exact cloFrom_has h
      · exact cloFrom_has h

theorem cells_mem : ∀ {names : List (Str × NameKind)} {h : Heap} {acc : List (Str × Addr)} {x : Str} {c : Addr}, (x, c) ∈ cellsFrom h.objs.size names acc →
    (x, c) ∈ acc ∨ ((x, .cell) ∈ names ∧ h.objs.size ≤ c ∧ CellAt (pushCells h names) c none)
  | [], _, _, _, _, h => .inl h
  | (n, k) :: r, h, acc, x, c, hm => by
    unfold cellsFrom at hm
    unfold pushCells
    split at hm
    · rename_i hk
      rw [if_pos hk]
      have hk : k = .cell := by simpa using hk
      rw [← Heap.size_push h { cls := .type "cell", data := .cell none }] at hm
      rcases cells_mem hm with hm | ⟨h1, h2, h3⟩
      · rcases List.mem_cons.mp hm with e | hm
        · cases e
          exact .inr ⟨hk ▸ List.mem_cons_self, Nat.le_refl _, _, pushCells_keeps r _ _ _ (Heap.get?_push_size _ rfl), rfl⟩
        · exact .inl hm
      · rw [Heap.size_push] at h2
        exact .inr ⟨List.mem_cons_of_mem _ h1, Nat.le_of_succ_le h2, h3⟩
    · rename_i hk
      rw [if_neg hk]
      rcases cells_mem hm with hm | ⟨h1, h2, h3⟩
      · exact .inl hm
      · exact .inr ⟨List.mem_cons_of_mem _ h1, h2, h3⟩
theorem cells_acc : ∀ {names : List (Str × NameKind)} {n : Nat} {acc : List (Str × Addr)} {p : Str × Addr}, p ∈ acc → p ∈ cellsFrom n names acc
  | [], _, _, _, h => h
  | (m, k) :: r, n, acc, p, h => by
    unfold cellsFrom
    split
    · exact cells_acc (List.mem_cons_of_mem _ h)
    · exact cells_acc h
theorem cells_has : ∀ {names : List (Str × NameKind)} {n : Nat} {acc : List (Str × Addr)} {x : Str}, (x, .cell) ∈ names → ∃ c, (x, c) ∈ cellsFrom n names acc
  | (m, k) :: r, n, acc, x, h => by
    unfold cellsFrom
    rcases List.mem_cons.mp h with e | h
    · cases e
      exact ⟨n, cells_acc List.mem_cons_self⟩
    · split
      · exact cells_has h
      · exact cells_has h
theorem cells_inj : ∀ {names : List (Str × NameKind)} {h : Heap} {acc : List (Str × Addr)} {x y : Str} {c : Addr}, (∀ p ∈ acc, p.2 < h.objs.size) → (∀ x y c, (x, c) ∈ acc → (y, c) ∈ acc → x = y) →
    (x, c) ∈ cellsFrom h.objs.size names acc → (y, c) ∈ cellsFrom h.objs.size names acc → x = y
  | [], _, _, _, _, _, _, hi, h1, h2 => hi _ _ _ h1 h2
  | (n, k) :: r, h, acc, x, y, c, hl, hi, h1, h2 => by
    unfold cellsFrom at h1 h2
    split at h1
    · rename_i hk
      rw [if_pos hk] at h2
      rw [← Heap.size_push h { cls := .type "cell", data := .cell none }] at h1 h2
      refine cells_inj (h := h.push _) (fun p hp => ?_) (fun x y c a b => ?_) h1 h2
      · rw [Heap.size_push]
        rcases List.mem_cons.mp hp with rfl | hp
        · exact Nat.lt_succ_self _
        · exact Nat.lt_succ_of_lt (hl p hp)
      · rcases List.mem_cons.mp a with e | a <;> rcases List.mem_cons.mp b with e' | b
        · cases e; cases e'; rfl
        · cases e; exact absurd (hl _ b) (Nat.lt_irrefl _)
        · cases e'; exact absurd (hl _ a) (Nat.lt_irrefl _)
        · exact hi _ _ _ a b
    · rename_i hk
      rw [if_neg hk] at h2
      exact cells_inj hl hi h1 h2

theorem newEnv_comp {M : Model} {A : Around} {E : Value → Shared → Prop} {s : Shared} {scope : Scope} {globals : Addr} {closure : List (Str × Addr)} {qual : Str} {func : Option Addr} {code : Value} {around : Env} {builtins : Addr} {Q : Env → Shared → Prop}
    (h : Q (newEnv scope s.heap.objs.size globals (cellsFrom (s.heap.objs.size + 1) scope.names closure) qual func code (some around) builtins)
      { s with heap := pushCells (s.heap.push { cls := .type "dict", data := .dict #[] }) scope.names }) :
    wpAny M A (newFunctionEnv scope globals closure [] qual func code (some around) builtins) Q E s := by
  simp only [newFunctionEnv, Option.isSome_some, if_true]
  refine wpAny_bind (wpAny_alloc ?_)
  refine wpAny_bind (wpAny_layCells _ (fun n k c => rfl) scope.names closure _ _ ?_)
  rw [show ({ s with heap := s.heap.push { cls := .type "dict", data := .dict #[] } } : Shared).heap.objs.size = s.heap.objs.size + 1 from Heap.size_push ..]
  rw [List.forIn_nil]
  exact wpAny_bind (wpAny_pure (wpAny_pure h))

/-- every name of the written scope, in the scope that runs -/
theorem lookup_relS {sc : Scope} : ∀ {names : List (Str × NameKind)} {x : Str} {k : NameKind},
    (names.map fun (n, k) => if (k == NameKind.free && sc.kind == .function && sc.names.lookup n == some .cell) then (n, NameKind.cell) else (n, k)).lookup x = some k →
    ∃ k', names.lookup x = some k' ∧ (k = k' ∨ (k' = .free ∧ k = .cell))
  | [], _, _, h => by simp at h
  | (n, k₀) :: r, x, k, h => by
    have ih := @lookup_relS sc r x k
    have h' : List.lookup x ((if (k₀ == NameKind.free && sc.kind == .function && sc.names.lookup n == some .cell) = true then (n, NameKind.cell) else (n, k₀)) :: (r.map _)) = some k := h
    cases hx : x == n with
    | true =>
      simp only [List.lookup_cons, hx]
      by_cases hc : (k₀ == NameKind.free && sc.kind == .function && sc.names.lookup n == some .cell) = true
      · rw [if_pos hc] at h'
        simp only [List.lookup_cons, hx] at h'
        cases h'
        simp only [Bool.and_eq_true, beq_iff_eq] at hc
        exact ⟨k₀, rfl, .inr ⟨hc.1.1, rfl⟩⟩
      · rw [if_neg hc] at h'
        simp only [List.lookup_cons, hx] at h'
        cases h'
        exact ⟨_, rfl, .inl rfl⟩
    | false =>
      simp only [List.lookup_cons, hx]
      by_cases hc : (k₀ == NameKind.free && sc.kind == .function && sc.names.lookup n == some .cell) = true
      · rw [if_pos hc] at h'
        simp only [List.lookup_cons, hx] at h'
        exact ih h'
      · rw [if_neg hc] at h'
        simp only [List.lookup_cons, hx] at h'
        exact ih h'
/-- the names of a comprehension's block: its own (with their places in N), or captured -/
structure BlkOk (N : List Str) (sc scope : Scope) (own : List (Str × Nat)) : Prop where
  kind : scope.kind = .function
  uniq : ∀ y ∈ scope.names, scope.names.lookup y.1 = some y.2
  ix : ∀ p ∈ own, N[p.2]? = some p.1
  free : ∀ y ∈ scope.names, y.2 = .free → sc.names.lookup y.1 = some .cell ∨ sc.names.lookup y.1 = some .free
  own : ∀ y ∈ scope.names, y.2 = .local ∨ y.2 = .cell → y.1 ∈ own.map (·.1) ∨ y.1 ∉ N
/-- the slots of the block's own names forgotten -/
def wipe (σ : St) : List Nat → St
  | [] => σ
  | v :: vs => (wipe σ vs).set v none
theorem wipe_length (σ : St) : ∀ vs : List Nat, (wipe σ vs).length = σ.length
  | [] => rfl
  | v :: vs => by unfold wipe; rw [List.length_set, wipe_length σ vs]
theorem wipe_some {σ : St} {i : Nat} {x : V} : ∀ {vs : List Nat}, (wipe σ vs)[i]? = some (some x) → σ[i]? = some (some x) ∧ i ∉ vs
  | [], h => ⟨h, by simp⟩
  | v :: vs, h => by
    unfold wipe at h
    by_cases hi : v = i
    · subst hi
      by_cases hv : v < (wipe σ vs).length
      · rw [List.getElem?_set_self hv] at h; cases h
      · rw [List.getElem?_eq_none (by simpa using hv)] at h; cases h
    · rw [List.getElem?_set_ne hi] at h
      obtain ⟨h1, h2⟩ := wipe_some h
      exact ⟨h1, by simp only [List.mem_cons, not_or]; exact ⟨fun e => hi e.symm, h2⟩⟩

/-- the context of a block that starts at s, its iterator's objects at fp -/
abbrev Cx.blk (X : Cx) (s : Shared) (H : Hp) (scope : Scope) (cenv : Env) (fp : List Addr) : Cx := { X with s_0 := s, H_0 := H, env := cenv, outer := X.stack, ex := fp, fn := fun x => scope.names.lookup x == some .cell, pn := [], xe := fun _ _ => False }
section
variable {X : Cx} {pins : List (Addr × Obj)} {σ : St} {H : Hp} {s : Shared}
theorem block_start {scope : Scope} {own : List (Str × Nat)} {fp : List Addr} (I : Inv X pins σ H s) (ok : BlkOk X.N X.env.scope scope own) (hN : X.N.Nodup) (hfp : ∀ b ∈ fp, FpOk X pins H b ∧ b < s.heap.objs.size) :
    Inv (X.blk s H scope (compEnvC scope (cellsFrom (s.heap.objs.size + 1) scope.names (cloFrom X.env.cells scope.names [])) s.heap.objs.size X.env) fp) [] (wipe σ (own.map (·.2))) H { s with heap := pushCells (s.heap.push { cls := .type "dict", data := .dict #[] }) scope.names } := by
  have hfree : ∀ y ∈ scope.names, y.2 = .free → ∃ c, X.env.cells.lookup y.1 = some c := fun y hy e => by
    rcases ok.free y hy e with k | k
    · exact I.ok.has _ (.inl k)
    · exact I.ok.has _ (.inr k)
  generalize hcenv : compEnvC scope (cellsFrom (s.heap.objs.size + 1) scope.names (cloFrom X.env.cells scope.names [])) s.heap.objs.size X.env = cenv
  have kp : ∀ b o, s.heap.get? b = some o → (pushCells (s.heap.push { cls := .type "dict", data := .dict #[] }) scope.names).get? b = some o := fun b o e => pushCells_keeps _ _ _ _ (Heap.get?_push_of_some _ e)
  have hL : cenv.locals = s.heap.objs.size := by rw [← hcenv]; rfl
  have hcl : cenv.cells = cellsFrom (s.heap.objs.size + 1) scope.names (cloFrom X.env.cells scope.names []) := by rw [← hcenv]; rfl
  have hsc : cenv.scope = relS scope X.env.scope := by rw [← hcenv]; rfl
  rw [← Heap.size_push s.heap { cls := .type "dict", data := .dict #[] }] at hcl
  have cm : ∀ {y c}, (y, c) ∈ cloFrom X.env.cells scope.names [] → X.env.cells.lookup y = some c ∧ c < s.heap.objs.size := fun {y c} hm => by
    rcases cloFrom_mem hm with hm | ⟨h1, rfl⟩
    · cases hm
    · obtain ⟨c, hc⟩ := hfree _ h1 rfl
      rw [hc]
      obtain ⟨w, z⟩ := I.cell _ _ hc
      exact ⟨rfl, z.lt⟩
  have mem : ∀ {y c}, cenv.cells.lookup y = some c → (X.env.cells.lookup y = some c ∧ c < s.heap.objs.size) ∨ (s.heap.objs.size + 1 ≤ c ∧ CellAt (pushCells (s.heap.push { cls := .type "dict", data := .dict #[] }) scope.names) c none) := fun {y c} e => by
    rw [hcl] at e
    rcases cells_mem (PySem.mem_of_lookup e) with hm | ⟨_, h2, h3⟩
    · exact .inl (cm hm)
    · rw [Heap.size_push] at h2; exact .inr ⟨h2, h3⟩
  have look : ∀ {y}, scope.names.lookup y = some .free → ∃ c, cenv.cells.lookup y = some c ∧ X.env.cells.lookup y = some c := fun {y} hl => by
    have hy : (y, NameKind.free) ∈ scope.names := PySem.mem_of_lookup hl
    obtain ⟨c', e'⟩ := mem_lookup (cells_acc (names := scope.names) (n := (s.heap.push { cls := .type "dict", data := .dict #[] }).objs.size) (cloFrom_has (cells := X.env.cells) (acc := []) hy))
    rw [← hcl] at e'
    refine ⟨c', e', ?_⟩
    rw [hcl] at e'
    rcases cells_mem (PySem.mem_of_lookup e') with hm | ⟨h1, _, _⟩
    · exact (cm hm).1
    · have := ok.uniq _ h1
      rw [hl] at this; cases this
  have okB : (X.blk s H scope cenv fp).Ok := by
    refine ⟨I.ok.mod, by show cenv.scope.kind = _; rw [hsc]; exact ok.kind, by show cenv.globals = _; rw [← hcenv]; exact I.ok.glob, by show cenv.builtins = _; rw [← hcenv]; exact I.ok.blt, by show s.heap.objs.size ≤ cenv.locals; rw [hL]; exact Nat.le_refl _,
      fun y z c e1 e2 => ?_, fun y hy => ?_, fun y c z e => ?_, I.ok.hd, I.ok.frames, .inl rfl, fun b hb => ⟨?_, fun y c e z => ?_⟩, I.bs, Nat.le_trans I.ok.bsz I.sz, fun b o e hb => ?_, fun b hb z => ?_, I.stack, I.stkFree⟩
    · have e1 : cenv.cells.lookup y = some c := e1
      have e2 : cenv.cells.lookup z = some c := e2
      rw [hcl] at e1 e2
      refine cells_inj (fun p hp => ?_) (fun y z c a b => I.ok.inj y z c (cm a).1 (cm b).1) (PySem.mem_of_lookup e1) (PySem.mem_of_lookup e2)
      rw [Heap.size_push]
      exact Nat.lt_succ_of_lt (cm (y := p.1) (c := p.2) hp).2
    · show ∃ c, cenv.cells.lookup y = some c
      have key : ∀ k, cenv.kindOf y = some k → (k = .cell ∨ k = .free) → ∃ c, cenv.cells.lookup y = some c := fun k hk hk' => by
        unfold Env.kindOf at hk
        rw [hsc] at hk
        obtain ⟨k', e, r⟩ := lookup_relS hk
        have : k' = .cell ∨ k' = .free := by
          rcases r with rfl | ⟨rfl, _⟩
          · exact hk'
          · exact .inr rfl
        rcases this with rfl | rfl
        · obtain ⟨c, hm⟩ := cells_has (n := (s.heap.push { cls := .type "dict", data := .dict #[] }).objs.size) (acc := cloFrom X.env.cells scope.names []) (PySem.mem_of_lookup e)
          obtain ⟨c', e'⟩ := mem_lookup hm
          exact ⟨c', by rw [hcl]; exact e'⟩
        · obtain ⟨c, h1, _⟩ := look e
          exact ⟨c, h1⟩
      rcases hy with hy | hy
      · exact key _ hy (.inl rfl)
      · exact key _ hy (.inr rfl)
    · have z : (scope.names.lookup y == some NameKind.cell) = true := z
      have z : scope.names.lookup y = some .cell := by simpa using z
      have e : cenv.cells.lookup y = some c := e
      rw [hcl] at e
      rcases cells_mem (PySem.mem_of_lookup e) with hm | ⟨_, h2, _⟩
      · rcases cloFrom_mem hm with hm | ⟨h1, _⟩
        · cases hm
        · have q := ok.uniq _ h1
          rw [z] at q; cases q
      · rw [Heap.size_push] at h2
        exact Nat.le_of_succ_le h2
    · show b ≠ cenv.locals
      rw [hL]; exact Nat.ne_of_lt (hfp b hb).2
    · have e : cenv.cells.lookup y = some c := e
      rcases mem e with ⟨h1, _⟩ | ⟨h1, _⟩
      · exact (hfp b hb).1.2.2.2.2.1 y c h1 z
      · have h2 : s.heap.objs.size + 1 ≤ b := by rw [← z]; exact h1
        exact absurd (Nat.lt_of_lt_of_le (hfp b hb).2 (Nat.le_of_succ_le h2)) (Nat.lt_irrefl _)
    · rcases (hfp b hb).1.2.2.2.1 with z | z
      · exact I.ok.noex b o e z
      · exact absurd (Nat.lt_of_lt_of_le (Heap.lt_size e) (Nat.le_trans I.ok.bsz z)) (Nat.lt_irrefl _)
    · rcases List.mem_cons.mp (I.stkSub b z) with z | z
      · exact (hfp b hb).1.2.1 z
      · exact (hfp b hb).1.2.2.1 z
  refine ⟨okB, rfl, I.bare, Un.kept kp, ⟨fun _ => none, ?_, fun i y av e1 e2 e3 => ?_⟩, fun y c e => ?_, ?_, fun y c e => ?_, fun p hp => ?_, I.hok.kept kp, by rw [wipe_length]; exact I.len⟩
  · show Heap.Ns _ cenv.locals _
    rw [hL]
    exact Heap.Ns.keeps (Heap.Ns.new ..) fun b o e => pushCells_keeps _ _ _ _ e
  · obtain ⟨e2, hne⟩ := wipe_some e2
    have hfr : scope.names.lookup y = some .free ∧ (cenv.kindOf y = some .cell ∨ cenv.kindOf y = some .free) := by
      have key : ∀ k, cenv.scope.names.lookup y = some k → k = .local ∨ k = .cell ∨ k = .free → scope.names.lookup y = some .free ∧ (cenv.kindOf y = some .cell ∨ cenv.kindOf y = some .free) := fun k hk hk' => by
        have hk0 := hk
        rw [hsc] at hk
        obtain ⟨k', e, r⟩ := lookup_relS hk
        have no : ¬ (k' = .local ∨ k' = .cell) := fun hh => by
          rcases ok.own _ (PySem.mem_of_lookup e) hh with e' | e'
          · obtain ⟨p, hp, hpy⟩ := List.mem_map.mp e'
            have e3 := ok.ix p hp
            have : p.1 = y := hpy
            rw [this] at e3
            exact hne (List.mem_map.mpr ⟨p, hp, nodup_ix hN e3 e1⟩)
          · exact e' (List.mem_of_getElem? e1)
        rcases r with rfl | ⟨rfl, rfl⟩
        · rcases hk' with rfl | rfl | rfl
          · exact absurd (.inl rfl) no
          · exact absurd (.inr rfl) no
          · exact ⟨e, .inr hk0⟩
        · exact ⟨e, .inl hk0⟩
      have e3 : Vis cenv.scope y := e3
      rcases e3 with e3 | e3 | e3
      · exact key _ e3 (.inl rfl)
      · exact key _ e3 (.inr (.inl rfl))
      · exact key _ e3 (.inr (.inr rfl))
    obtain ⟨m, hn, hl⟩ := I.loc
    have hvis : Vis X.env.scope y := (ok.free _ (PySem.mem_of_lookup hfr.1) rfl).elim (fun k => .inr (.inl k)) (fun k => .inr (.inr k))
    obtain ⟨w, r, q⟩ := hl i y av e1 e2 hvis
    refine ⟨w, r, .inr ⟨hfr.2, ?_⟩⟩
    obtain ⟨c, h1, h2⟩ := look hfr.1
    rcases q with ⟨k, _⟩ | ⟨_, c', e', z⟩
    · have k : X.env.scope.names.lookup y = some .local := k
      rcases ok.free _ (PySem.mem_of_lookup hfr.1) rfl with k' | k' <;> rw [show X.env.scope.names.lookup y = _ from k'] at k <;> cases k
    · rw [h2] at e'; cases e'
      exact ⟨c, h1, z.keeps kp⟩
  · have e : cenv.cells.lookup y = some c := e
    rcases mem e with ⟨h1, _⟩ | ⟨_, z⟩
    · obtain ⟨w, z⟩ := I.cell y c h1
      exact ⟨w, z.keeps kp⟩
    · exact ⟨_, z⟩
  · show H cenv.locals = none
    rw [hL]; exact I.hok.fresh (Nat.le_refl _)
  · have e : cenv.cells.lookup y = some c := e
    rcases mem e with ⟨h1, _⟩ | ⟨h1, _⟩
    · exact I.freeC y c h1
    · exact I.hok.fresh (Nat.le_of_succ_le h1)
  · exact absurd (show p ∈ ([] : List (Addr × Obj)) ++ [] from hp) (by simp)

/-- an item appended to a tracked list -/
theorem app_ok {E : Value → Shared → Prop} {D : Addr} {xs : List V} {y : V} {v : Value} {Q : Value → Shared → Prop} (I : Inv X pins σ H s) (hD : H D = some (.lst xs)) (hz : xs.length < sizeLine) (r : RelV y v)
    (h : ∀ s', Inv X pins σ (upd H D (.lst (xs ++ [y]))) s' → Q .none s') : wpAny (model X.prog X.w) X.A (call (.builtin "list.append") [.ref D, v]) Q E s := by
  obtain ⟨hz', its, n, ri, e⟩ := I.hok D _ hD
  have hl := ri.length
  refine append_at (hsz := by rw [List.size_toArray]; omega) e fun h' sb ho' => ?_
  refine h { s with heap := h' } (I.write (t' := s.toks) (by rw [hD]; trivial) (.inl rfl) (fun b u hb q => (sb.2 b hb).trans q) ⟨_, ho'⟩ ⟨by rw [List.length_append]; exact hz, its ++ [v], n + 1, ri.append (.cons r .nil), ?_⟩)
  rw [ho']
  simp

/-- a clause's tests -/
def PTs (X : Cx) (ifs : List Expr) (t : TT) : Prop :=
  ∀ (pins : List (Addr × Obj)) (s : Shared) (σ : St) (H : Hp) (Q : Bool → Hp → Prop), Inv X pins σ H s → t σ H Q →
    wpAny (model X.prog X.w) X.A (forIn ifs true fun c r => if r = true then do let ok ← isTrue c X.env (eval c X.env); pure (ForInStep.yield ok) else pure (ForInStep.yield r)) (TP X pins σ Q) X.xe s
def tYes : TT := fun _ H Q => Q true H
theorem pts_nil : PTs X [] tYes := fun _ _ _ H _ I h => wpAny_tests_nil ⟨H, I, h⟩
theorem pts_one {c : Expr} {t : TT} (h : PT X c t) : PTs X [c] t := fun pins s σ H Q I hw => wpAny_tests_one (h pins s σ H Q I hw)
end

theorem thnF {α : Type} {t : Sem α} {Q Q' : α → Shared → Prop} {M : Model} {A : Around} {E : Value → Shared → Prop} {s : Shared} (h : wpAny M A t Q (fun _ _ => False) s) (hQ : ∀ a s, Q a s → Q' a s) : wpAny M A t Q' E s := wpAny_mono h hQ fun _ _ z => False.elim z

/-- the loop of a list comprehension's block, the target of any form (codeAny_compLoop_tests asks a target that no tuple goes to; statement and proof follow it, PyProof/CompMap.lean:41-61, with the step letOwnedTupleGo kept) -/
theorem compLoop_any {prog : Program} {w : World} {A : Around} {R : Result → Shared → Prop} {s : Shared} {elt target iter : Expr} {ifs : List Expr} {scope : Scope} {pos : Pos} {it acc : Value} {env : Env} (I : Nat → Shared → Prop)
    (turn : ∀ n s, I n s → wpAny (model prog w) A (pyNext it) (fun r s₁ => match r with
      | none => R (.ok .next) s₁
      | some v => wpAny (model prog w) A (letOwnedTupleGo target it v) (fun _ s₁' => wpAny (model prog w) A (assign target env v) (fun _ s₂ =>
          wpAny (model prog w) A (forIn ifs true fun c r => if r = true then do let ok ← isTrue c env (eval c env); pure (ForInStep.yield ok) else pure (ForInStep.yield r)) (fun ok s₃ =>
            if ok = true then wpAny (model prog w) A (eval elt env) (fun x s₄ =>
              wpAny (model prog w) A (call (.builtin "list.append") [acc, x]) (fun _ s₅ => ∃ m, m < n ∧ I m s₅) (notedBy (model prog w) A env fun e s' => R (.error e) s') s₄) (notedBy (model prog w) A env fun e s' => R (.error e) s') s₃
            else ∃ m, m < n ∧ I m s₃) (notedBy (model prog w) A env fun e s' => R (.error e) s') s₂) (notedBy (model prog w) A env fun e s' => R (.error e) s') s₁') (notedBy (model prog w) A env fun e s' => R (.error e) s') s₁) (notedBy (model prog w) A env fun e s' => R (.error e) s') s)
    (n : Nat) (h : I n s) :
    codeAny (model prog w) A (.compLoop (.ListComp elt [⟨target, iter, ifs, 0⟩] scope pos) 0 it acc env) R s := by
  refine codeAny_loop rfl I (fun n s hI => ?_) n h
  show wpAny _ A ((compTurn (.ListComp elt [⟨target, iter, ifs, 0⟩] scope pos) 0 it acc env).onRaise (fun x => do noteFrame x env; theTreesLotGoes x)) _ _ s
  refine wpAny_noted ?_
  rw [compTurn_list]
  refine wpAny_bind (wpAny_standAt (wpAny_bind (wpAny_mono (turn n s hI) (fun r s₁ h₁ => ?_) fun _ _ h' => h')))
  cases r with
  | none => exact wpAny_pure h₁
  | some v =>
    refine wpAny_bind (wpAny_mono h₁ (fun _ s₁' h₁' => ?_) fun _ _ h' => h')
    refine wpAny_bind (wpAny_mono h₁' (fun _ s₂ h₂ => wpAny_bind (wpAny_mono h₂ (fun ok s₃ h₃ => ?_) fun _ _ h' => h')) fun _ _ h' => h')
    cases ok with
    | false => exact wpAny_pure ⟨rfl, h₃⟩
    | true =>
      exact wpAny_bind (wpAny_bind (wpAny_mono h₃ (fun x s₄ h₄ => wpAny_bind (wpAny_mono h₄ (fun _ s₅ h₅ => wpAny_pure (wpAny_pure ⟨rfl, h₅⟩)) fun _ _ h' => h')) fun _ _ h' => h'))

section
variable {X : Cx}
/-- [elt for target in iter if ..]: D the new list; W by the turn and a measure, Nx what a turn is to reach -/
def tLc (wi : TI) (g : TG) (tt : TT) (te : TE) (vs : List Nat) : TE := fun σ H Q => wi σ H fun J H1 => ∀ D, H1 D = none → ∃ W : Nat → Nat → Hp → Prop, (∃ m, W 0 m (upd H1 D (.lst []))) ∧ ∀ i m H, W i m H →
  (J.stop i H ∧ Q (.ref D) H) ∨ (J.go i H ∧ ∃ Nx : Hp → Prop, (∀ H', Nx H' → ∃ m', m' < m ∧ W (i + 1) m' H') ∧ ∀ x H', J.yld i H x H' → g x (wipe σ vs) H' fun σ2 H2 => wipe σ2 vs = wipe σ vs ∧ tt σ2 H2 fun b H3 =>
    if b = true then te σ2 H3 fun y H4 => ∃ acc, H4 D = some (.lst acc) ∧ acc.length < sizeLine ∧ Nx (upd H4 D (.lst (acc ++ [y]))) else Nx H3)
theorem lc_core {pins : List (Addr × Obj)} {s : Shared} {σ : St} {H : Hp} {Q : VK} {elt tg iter : Expr} {ifs : List Expr} {scope : Scope} {own : List (Str × Nat)} {pos pos' : Pos} {wi : TI} {g : TG} {tt : TT} {te : TE} {use : Option (Value → Sem Unit)} {Qf : Value → Shared → Prop}
    (hc : X.calm = true) (hN : X.N.Nodup) (I : Inv X pins σ H s) (hi : PI X tg iter wi) (ok : BlkOk X.N X.env.scope scope own)
    (hg : ∀ (s : Shared) (H : Hp) (C : Addr) (cl : List (Str × Addr)) (fp : List Addr), PG (X.blk s H scope (compEnvC scope cl C X.env) fp) tg g) (ht : ∀ (s : Shared) (H : Hp) (C : Addr) (cl : List (Str × Addr)) (fp : List Addr), PTs (X.blk s H scope (compEnvC scope cl C X.env) fp) ifs tt)
    (he : ∀ (s : Shared) (H : Hp) (C : Addr) (cl : List (Str × Addr)) (fp : List Addr), PE (X.blk s H scope (compEnvC scope cl C X.env) fp) elt te) (hs : ∀ x, foldedSetIterable iter X.env x = pure x)
    (h : tLc wi g tt te (own.map (·.2)) σ H Q)
    (hRR : ∀ D C s' m H', Inv X pins σ H' s' → Q (.ref D) H' → s'.heap.Ns C m → FpOk X pins H' C → compPost (model X.prog X.w) X.A X.xe use Qf (.ref D) C (.ok .next) s') :
    wpAny (model X.prog X.w) X.A (comprehension (.ListComp elt [⟨tg, iter, ifs, 0⟩] scope pos) scope X.env pos' (newList []) false (eval iter X.env) use) Qf X.xe s := by
  have hfree : ∀ y ∈ scope.names, y.2 = .free → ∃ c, X.env.cells.lookup y.1 = some c := fun y hy e => by
    rcases ok.free y hy e with k | k
    · exact I.ok.has _ (.inl k)
    · exact I.ok.has _ (.inr k)
  refine wpAny_comprehension_free (use := use) rfl hs (closure_ok hfree) ok.kind (fun y hy e => by rw [ok.uniq y hy, e])
    (thn (hi pins s σ H _ I h) fun xv s1 hx => thn hx fun itv s2 h2 => ?_)
  obtain ⟨it, fp, tn, J, H2, e, I2, T, st2, f2, q⟩ := h2
  subst e
  refine wpAny_newObj_type (newEnv_comp ?_) (by show 0 ≤ sizeLine; decide)
  generalize hD : s2.heap.objs.size = D
  have hDn : H2 D = none := I2.hok.fresh (Nat.le_of_eq hD)
  obtain ⟨W, ⟨m0, w0⟩, turn⟩ := q D hDn
  -- the new list
  generalize hs3 : ({ s2 with heap := s2.heap.push { cls := .type "list", data := .seq ([] : List Value).toArray } } : Shared) = s3
  have I3 : Inv X pins σ (upd H2 D (.lst [])) s3 := by
    rw [← hs3]
    refine I2.laid (t' := s2.toks) (fun b o e => Heap.get?_push_of_some _ e) (Nat.le_of_eq hD) ⟨Nat.zero_le _, [], 0, .nil, ?_⟩
    rw [← hD]
    exact Heap.get?_push_size _ rfl
  have h3 : s3.heap = s2.heap.push { cls := .type "list", data := .seq ([] : List Value).toArray } := by rw [← hs3]
  have sz : ∀ b ∈ fp, b < s2.heap.objs.size := fun b hb => by
    obtain ⟨o, e, _⟩ := T.obj _ _ st2 b hb
    exact Heap.lt_size e
  have f3 : ∀ b ∈ fp, FpOk X pins (upd H2 D (.lst [])) b ∧ b < s3.heap.objs.size := fun b hb => by
    have hlt := sz b hb
    refine ⟨⟨?_, (f2 b hb).2⟩, by rw [h3, Heap.size_push]; exact Nat.lt_succ_of_lt hlt⟩
    rw [upd_ne (by rw [← hD]; exact Nat.ne_of_lt hlt)]
    exact (f2 b hb).1
  have st3 : tn 0 s3.heap := T.keep _ _ _ st2 fun b _ o e => by rw [h3]; exact Heap.get?_push_of_some _ e
  have I4 := block_start I3 ok hN f3
  have pg := hg s3 (upd H2 D (.lst [])) s3.heap.objs.size (cellsFrom (s3.heap.objs.size + 1) scope.names (cloFrom X.env.cells scope.names [])) fp
  have pt := ht s3 (upd H2 D (.lst [])) s3.heap.objs.size (cellsFrom (s3.heap.objs.size + 1) scope.names (cloFrom X.env.cells scope.names [])) fp
  have pe := he s3 (upd H2 D (.lst [])) s3.heap.objs.size (cellsFrom (s3.heap.objs.size + 1) scope.names (cloFrom X.env.cells scope.names [])) fp
  show codeAny _ _ (.compStart (.ListComp elt [⟨tg, iter, ifs, 0⟩] scope pos) 0 (.ref it) (.ref D) (compEnvC scope (cellsFrom (s3.heap.objs.size + 1) scope.names (cloFrom X.env.cells scope.names [])) s3.heap.objs.size X.env)) (compPost (model X.prog X.w) X.A X.xe use Qf (.ref D) s3.heap.objs.size) { s3 with heap := pushCells (s3.heap.push { cls := .type "dict", data := .dict #[] }) scope.names }
  have nfp : ∀ b ∈ fp, (upd H2 D (.lst [])) b = none := fun b hb => (f3 b hb).1.1
  generalize hce : compEnvC scope (cellsFrom (s3.heap.objs.size + 1) scope.names (cloFrom X.env.cells scope.names [])) s3.heap.objs.size X.env = ce at I4 pg pt pe ⊢
  have cL : ce.locals = s3.heap.objs.size := by subst hce; rfl
  generalize hH3 : upd H2 D (.lst []) = H3 at I3 I4 pg pt pe w0 nfp f3
  generalize hs4 : ({ s3 with heap := pushCells (s3.heap.push { cls := .type "dict", data := .dict #[] }) scope.names } : Shared) = s4 at I4 ⊢
  have st4 : tn 0 s4.heap := T.keep _ _ _ st3 fun b _ o e => by rw [← hs4]; exact pushCells_keeps _ _ _ _ (Heap.get?_push_of_some _ e)
  have stat : ∀ {σ' : St} {H' : Hp} {s' : Shared}, Inv (X.blk s3 H3 scope ce fp) [] σ' H' s' → (∀ b ∈ fp, H' b = none) → ∀ b ∈ fp, FpOk (X.blk s3 H3 scope ce fp) [] H' b := fun {σ' H' s'} I' hn b hb =>
    ⟨hn b hb, (I'.ok.exf b hb).1, I'.ok.exfs b hb, .inl hb, fun x c e => (I'.ok.exf b hb).2 x c e, fun p hp => absurd (show p ∈ ([] : List (Addr × Obj)) ++ [] from hp) (by simp)⟩
  have loop : codeAny (model X.prog X.w) X.A (.compLoop (.ListComp elt [⟨tg, iter, ifs, 0⟩] scope pos) 0 (.ref it) (.ref D) ce) (compPost (model X.prog X.w) X.A X.xe use Qf (.ref D) s3.heap.objs.size) s4 := by
    refine compLoop_any (fun n s' => ∃ i H', Inv (X.blk s3 H3 scope ce fp) [] (wipe σ (own.map (·.2))) H' s' ∧ tn i s'.heap ∧ (∀ b ∈ fp, H' b = none) ∧ W i n H') ?_ m0 ⟨0, H3, I4, st4, nfp, w0⟩
    rintro n s5 ⟨i, H5, I5, st5, n5, w5⟩
    rcases turn i n H5 w5 with ⟨stop, qq⟩ | ⟨go, Nx, hNx, step⟩
    · have td := T.done (X.blk s3 H3 scope ce fp) rfl rfl rfl hc i [] s5 _ H5 (fun _ _ => False) I5 (stat I5 n5) st5 stop
      refine thnF td fun r s6 ⟨hr, I6⟩ => ?_
      subst hr
      -- back in the def's context
      have I7 : Inv X pins σ H5 s6 := I3.call' (ch := fp) I6.os I6.base I6.hok I6.bare fun b hb => ⟨(f3 b hb).1.2.2.2.1, (f3 b hb).1.2.1, (f3 b hb).1.2.2.2.2.1, (f3 b hb).1.2.2.2.2.2⟩
      have nC : H5 s3.heap.objs.size = none := by
        have z : H5 ce.locals = none := I6.free
        rw [cL] at z
        exact z
      obtain ⟨m, hn, _⟩ := I6.loc
      have hn : s6.heap.Ns ce.locals m := hn
      rw [cL] at hn
      exact hRR D s3.heap.objs.size s6 m H5 I7 qq hn (I3.fpOk (Nat.le_refl _) nC)
    · have ti := T.item (X.blk s3 H3 scope ce fp) rfl rfl rfl hc i [] s5 _ H5 (fun _ _ => False) I5 (stat I5 n5) st5 go
      refine thnF ti fun r s6 ⟨u, hr, h6⟩ => ?_
      subst hr
      refine thnF h6 fun _ s7 ⟨x, H7, I7, r7, y7, st7, n7⟩ => ?_
      have I7' := I7.pinned (stat I7 n7) (T.obj _ _ st7)
      refine thnF (pg _ s7 _ H7 x u _ I7' r7 (step x H7 y7)) fun _ s8 ⟨σ8, H8, I8, hw8, q8⟩ => ?_
      refine thnF (pt _ s8 σ8 H8 _ I8 q8) fun b s9 ⟨H9, I9, q9⟩ => ?_
      -- the turn's end
      have fin : ∀ {s' : Shared} {H' : Hp}, Inv (X.blk s3 H3 scope ce fp) ([] ++ pinsAt fp s7.heap) σ8 H' s' → Nx H' → ∃ m, m < n ∧ ∃ i H', Inv (X.blk s3 H3 scope ce fp) [] (wipe σ (own.map (·.2))) H' s' ∧ tn i s'.heap ∧ (∀ b ∈ fp, H' b = none) ∧ W i m H' := fun {s' H'} I' nx => by
        obtain ⟨m', hm, w'⟩ := hNx H' nx
        have pin' : ∀ b ∈ fp, ∀ o, s7.heap.get? b = some o → s'.heap.get? b = some o ∧ H' b = none := fun b hb o e =>
          let z := I'.pin (b, o) (List.mem_append_right _ (List.mem_append_right _ (mem_pinsAt hb e)))
          ⟨z.1, z.2.1⟩
        have hl : (wipe σ (own.map (·.2))).length = σ8.length := by rw [← hw8, wipe_length]
        refine ⟨m', hm, i + 1, H', (I'.unpinned (pins := [])).weak hl (fun j v e => ?_), T.keep _ _ _ st7 fun b hb o e => (pin' b hb o e).1, fun b hb => ?_, w'⟩
        · rw [← hw8] at e
          exact (wipe_some e).1
        · obtain ⟨o, e, _⟩ := T.obj _ _ st7 b hb
          exact (pin' b hb o e).2
      cases b with
      | false =>
        simp only [Bool.false_eq_true, if_false] at q9 ⊢
        exact fin I9 q9
      | true =>
        simp only [if_true] at q9 ⊢
        refine thnF (pe _ s9 σ8 H9 _ I9 q9) fun z s10 ⟨yv, H10, I10, r10, acc, hD10, hz10, nx⟩ => ?_
        exact app_ok (X := X.blk s3 H3 scope ce fp) I10 hD10 hz10 r10 fun s11 I11 => fin I11 nx
  exact codeAny_compStart_list loop (T.self X.A 0 _ _ _ st4 loop)
/-- as a value -/
theorem pe_lc {elt tg iter : Expr} {ifs : List Expr} {scope : Scope} {own : List (Str × Nat)} {pos : Pos} {wi : TI} {g : TG} {tt : TT} {te : TE} (hc : X.calm = true) (hN : X.N.Nodup) (hi : PI X tg iter wi) (ok : BlkOk X.N X.env.scope scope own)
    (hg : ∀ (s : Shared) (H : Hp) (C : Addr) (cl : List (Str × Addr)) (fp : List Addr), PG (X.blk s H scope (compEnvC scope cl C X.env) fp) tg g) (ht : ∀ (s : Shared) (H : Hp) (C : Addr) (cl : List (Str × Addr)) (fp : List Addr), PTs (X.blk s H scope (compEnvC scope cl C X.env) fp) ifs tt)
    (he : ∀ (s : Shared) (H : Hp) (C : Addr) (cl : List (Str × Addr)) (fp : List Addr), PE (X.blk s H scope (compEnvC scope cl C X.env) fp) elt te) (hs : ∀ x, foldedSetIterable iter X.env x = pure x := by intro _; rfl) :
    PE X (.ListComp elt [⟨tg, iter, ifs, 0⟩] scope pos) (tLc wi g tt te (own.map (·.2))) := by
  intro pins s σ H Q I h
  rw [eval_ListComp]
  refine lc_core hc hN I hi ok hg ht he hs h fun D C s' m H' I' q hn f => ⟨m, hn, fun h'' sb => ?_⟩
  obtain ⟨f0, f1, f2, f3, f4, f5⟩ := f
  exact ⟨.ref D, H', I'.turned (t' := s'.toks) (fun b o hb e => (sb.2 b hb).trans e) f0 f1 f3 f4 f5, rfl, q⟩
end

/-! ### the forms one uses -/
/-- over a range: Pv by the turn and the heap (the new list at D within) -/
theorem lc_range {lo : Int} {n : Nat} {g : TG} {tt : TT} {te : TE} {vs : List Nat} {σ : St} {H1 : Hp} {D : Addr} {Qd : Hp → Prop} (Pv : Nat → Hp → Prop) (h0 : Pv 0 (upd H1 D (.lst [])))
    (hs : ∀ i H, i < n → Pv i H → g (.int (lo + i)) (wipe σ vs) H fun σ2 H2 => wipe σ2 vs = wipe σ vs ∧ tt σ2 H2 fun b H3 =>
      if b = true then te σ2 H3 fun y H4 => ∃ acc, H4 D = some (.lst acc) ∧ acc.length < sizeLine ∧ Pv (i + 1) (upd H4 D (.lst (acc ++ [y]))) else Pv (i + 1) H3) (hd : ∀ H, Pv n H → Qd H) :
    ∃ W : Nat → Nat → Hp → Prop, (∃ m, W 0 m (upd H1 D (.lst []))) ∧ ∀ i m H, W i m H →
      ((Itr lo n).stop i H ∧ Qd H) ∨ ((Itr lo n).go i H ∧ ∃ Nx : Hp → Prop, (∀ H', Nx H' → ∃ m', m' < m ∧ W (i + 1) m' H') ∧ ∀ x H', (Itr lo n).yld i H x H' → g x (wipe σ vs) H' fun σ2 H2 => wipe σ2 vs = wipe σ vs ∧ tt σ2 H2 fun b H3 =>
        if b = true then te σ2 H3 fun y H4 => ∃ acc, H4 D = some (.lst acc) ∧ acc.length < sizeLine ∧ Nx (upd H4 D (.lst (acc ++ [y]))) else Nx H3) := by
  refine ⟨fun i m H => m = n - i ∧ i ≤ n ∧ Pv i H, ⟨n, by simp, Nat.zero_le _, h0⟩, ?_⟩
  rintro i m H ⟨rfl, hi, p⟩
  by_cases hlt : i < n
  · refine .inr ⟨hlt, Pv (i + 1), fun H' p' => ⟨n - (i + 1), by omega, rfl, hlt, p'⟩, fun x H' y => ?_⟩
    obtain ⟨e, y⟩ := y
    subst e y
    exact hs i _ hlt p
  · have e : i = n := by omega
    subst e
    exact .inl ⟨Nat.le_refl _, hd H p⟩
/-- over a list that the block leaves as it is -/
theorem lc_list {K : PySem.W.Frag} {a : Addr} {xs : List V} {g : TG} {tt : TT} {te : TE} {vs : List Nat} {σ : St} {H1 : Hp} {D : Addr} {Qd : Hp → Prop} (Pv : Nat → Hp → Prop) (h0 : Pv 0 (upd H1 D (.lst []))) (hl : ∀ i H, i ≤ xs.length → Pv i H → SqL K H a xs)
    (hs : ∀ i x H, xs[i]? = some x → Pv i H → g x (wipe σ vs) H fun σ2 H2 => wipe σ2 vs = wipe σ vs ∧ tt σ2 H2 fun b H3 =>
      if b = true then te σ2 H3 fun y H4 => ∃ acc, H4 D = some (.lst acc) ∧ acc.length < sizeLine ∧ Pv (i + 1) (upd H4 D (.lst (acc ++ [y]))) else Pv (i + 1) H3) (hd : ∀ H, Pv xs.length H → Qd H) :
    ∃ W : Nat → Nat → Hp → Prop, (∃ m, W 0 m (upd H1 D (.lst []))) ∧ ∀ i m H, W i m H →
      ((Itl K a).stop i H ∧ Qd H) ∨ ((Itl K a).go i H ∧ ∃ Nx : Hp → Prop, (∀ H', Nx H' → ∃ m', m' < m ∧ W (i + 1) m' H') ∧ ∀ x H', (Itl K a).yld i H x H' → g x (wipe σ vs) H' fun σ2 H2 => wipe σ2 vs = wipe σ vs ∧ tt σ2 H2 fun b H3 =>
        if b = true then te σ2 H3 fun y H4 => ∃ acc, H4 D = some (.lst acc) ∧ acc.length < sizeLine ∧ Nx (upd H4 D (.lst (acc ++ [y]))) else Nx H3) := by
  refine ⟨fun i m H => m = xs.length - i ∧ i ≤ xs.length ∧ Pv i H, ⟨xs.length, by simp, Nat.zero_le _, h0⟩, ?_⟩
  rintro i m H ⟨rfl, hi, p⟩
  have q := hl i H hi p
  by_cases hlt : i < xs.length
  · refine .inr ⟨⟨xs, xs[i], q, by simp [hlt]⟩, Pv (i + 1), fun H' p' => ⟨xs.length - (i + 1), by omega, rfl, hlt, p'⟩, fun x H' y => ?_⟩
    obtain ⟨e, y⟩ := y
    subst e
    exact hs i x _ (y xs q) p
  · have e : i = xs.length := by omega
    subst e
    exact .inl ⟨⟨xs, q, Nat.le_refl _⟩, hd H p⟩
def blkC (N : List Str) (sc scope : Scope) (own : List (Str × Nat)) : Bool :=
  (match scope.kind with | .function => true | _ => false) && (scope.names.all fun y => decide (scope.names.lookup y.1 = some y.2)) && (own.all fun p => decide (N[p.2]? = some p.1)) &&
    (scope.names.all fun y => match y.2 with
      | .free => (match sc.names.lookup y.1 with | some .cell => true | some .free => true | _ => false)
      | .local => decide (y.1 ∈ own.map (·.1)) || decide (y.1 ∉ N)
      | .cell => decide (y.1 ∈ own.map (·.1)) || decide (y.1 ∉ N)
      | _ => true)
theorem blkOk_by {N : List Str} {sc scope : Scope} {own : List (Str × Nat)} (h : blkC N sc scope own = true) : BlkOk N sc scope own := by
  unfold blkC at h
  simp only [Bool.and_eq_true, List.all_eq_true, decide_eq_true_eq] at h
  obtain ⟨⟨⟨h1, h2⟩, h3⟩, h4⟩ := h
  refine ⟨?_, h2, h3, fun y hy e => ?_, fun y hy e => ?_⟩
  · split at h1
    · assumption
    · cases h1
  · have q := h4 y hy
    simp only [e] at q
    split at q <;> first | exact .inl (by assumption) | exact .inr (by assumption) | cases q
  · have q := h4 y hy
    rcases e with e | e <;> (simp only [e, Bool.or_eq_true, decide_eq_true_eq] at q; exact q)
end L2

namespace L2
open PySem PySem.Spec PyProof.Rows

section
variable {prog : Program} {w : World} {A : Around} {R : Result → Shared → Prop} {s : Shared} {elt t0 i0 t1 i1 : Expr} {ifs0 ifs1 : List Expr} {scope : Scope} {pos : Pos} {it acc : Value} {env : Env}
end

section
variable {X : Cx}
/-- [elt for tg in iter if .. for tg1 in iter1 if ..]: behind the first clause's store and tests the second source's own loop, from which Nx is reached. vs: the block's names; vs1: those of the second target -/
def tLc2 (wi : TI) (g : TG) (tt : TT) (wi1 : TI) (g1 : TG) (tt1 : TT) (te : TE) (vs vs1 : List Nat) : TE := fun σ H Q => wi σ H fun J H1 => ∀ D, H1 D = none → ∃ W : Nat → Nat → Hp → Prop, (∃ m, W 0 m (upd H1 D (.lst []))) ∧ ∀ i m H, W i m H →
  (J.stop i H ∧ Q (.ref D) H) ∨ (J.go i H ∧ ∃ Nx : Hp → Prop, (∀ H', Nx H' → ∃ m', m' < m ∧ W (i + 1) m' H') ∧ ∀ x H', J.yld i H x H' → g x (wipe σ vs) H' fun σ2 H2 => wipe σ2 vs = wipe σ vs ∧ tt σ2 H2 fun b H3 =>
    if b = true then wi1 σ2 H3 fun J1 H4 => ∃ W1 : Nat → Nat → Hp → Prop, (∃ m, W1 0 m H4) ∧ ∀ j k H, W1 j k H →
      (J1.stop j H ∧ Nx H) ∨ (J1.go j H ∧ ∃ Nx1 : Hp → Prop, (∀ H', Nx1 H' → ∃ k', k' < k ∧ W1 (j + 1) k' H') ∧ ∀ x H', J1.yld j H x H' → g1 x (wipe σ2 vs1) H' fun σ3 H5 => wipe σ3 vs1 = wipe σ2 vs1 ∧ tt1 σ3 H5 fun b H6 =>
        if b = true then te σ3 H6 fun y H7 => ∃ acc, H7 D = some (.lst acc) ∧ acc.length < sizeLine ∧ Nx1 (upd H7 D (.lst (acc ++ [y]))) else Nx1 H6)
    else Nx H3)
end
end L2

namespace L2
open PySem PySem.Spec PyProof.Rows

/-! ### lists of pairs as tables -/
section
variable {κ : Type} [DecidableEq κ]
def valV (kvs : List (κ × V)) (k : κ) : Option V := (kvs.find? fun kv => decide (kv.1 = k)).map (·.2)
/-- in its place, or at the end -/
def putK (kvs : List (κ × V)) (k : κ) (v : V) : List (κ × V) :=
  if (kvs.any fun kv => decide (kv.1 = k)) = true then kvs.map (fun kv => if kv.1 = k then (kv.1, v) else kv) else kvs ++ [(k, v)]
def dropK (kvs : List (κ × V)) (k : κ) : List (κ × V) := kvs.filter fun kv => decide (kv.1 ≠ k)

theorem valV_pos {p : κ × V} {r : List (κ × V)} {k : κ} (e : p.1 = k) : valV (p :: r) k = some p.2 := by simp [valV, List.find?_cons, e]
theorem valV_neg {p : κ × V} {r : List (κ × V)} {k : κ} (e : ¬ p.1 = k) : valV (p :: r) k = valV r k := by simp [valV, List.find?_cons, e]
theorem valV_any (k : κ) : ∀ kvs : List (κ × V), (kvs.any fun kv => decide (kv.1 = k)) = (valV kvs k).isSome
  | [] => rfl
  | p :: r => by
    rw [List.any_cons]
    by_cases e : p.1 = k
    · simp only [valV_pos e, decide_eq_true e, Bool.true_or, Option.isSome_some]
    · rw [valV_neg e, decide_eq_false e, Bool.false_or]; exact valV_any k r
theorem valV_map (k j : κ) (y : V) : ∀ kvs : List (κ × V), valV (kvs.map fun kv => if kv.1 = k then (kv.1, y) else kv) j = (valV kvs j).map fun x => if j = k then y else x
  | [] => rfl
  | p :: r => by
    have ih := valV_map k j y r
    rw [List.map_cons]
    by_cases h : p.1 = k
    · rw [if_pos h]
      by_cases e : p.1 = j
      · rw [valV_pos (p := (p.1, y)) e, valV_pos e, Option.map_some, if_pos (e.symm.trans h)]
      · rw [valV_neg (p := (p.1, y)) e, valV_neg e, ih]
    · rw [if_neg h]
      by_cases e : p.1 = j
      · rw [valV_pos (p := p) e, valV_pos e, Option.map_some, if_neg (fun z => h (e.trans z))]
      · rw [valV_neg (p := p) e, valV_neg e, ih]
theorem valV_snoc (k j : κ) (y : V) : ∀ kvs : List (κ × V), valV kvs k = none → valV (kvs ++ [(k, y)]) j = if j = k then some y else valV kvs j
  | [], _ => by
    by_cases e : k = j
    · rw [if_pos e.symm]; exact valV_pos (p := (k, y)) e
    · rw [if_neg (fun z => e z.symm)]; exact valV_neg (p := (k, y)) e
  | p :: r, hn => by
    rw [List.cons_append]
    have hk : ¬ p.1 = k := fun z => by rw [valV_pos z] at hn; cases hn
    rw [valV_neg hk] at hn
    have ih := valV_snoc k j y r hn
    by_cases e : p.1 = j
    · rw [valV_pos e, valV_pos e, if_neg (fun z => hk (e.trans z))]
    · rw [valV_neg e, valV_neg e, ih]
theorem valV_put (kvs : List (κ × V)) (k j : κ) (y : V) : valV (putK kvs k y) j = if j = k then some y else valV kvs j := by
  unfold putK
  by_cases a : (kvs.any fun kv => decide (kv.1 = k)) = true
  · rw [if_pos a, valV_map]
    rw [valV_any] at a
    by_cases e : j = k
    · obtain ⟨x, hx⟩ := Option.isSome_iff_exists.mp a
      rw [if_pos e, e, hx, Option.map_some, if_pos rfl]
    · rw [if_neg e]
      cases valV kvs j with
      | none => rfl
      | some x => rw [Option.map_some, if_neg e]
  · rw [if_neg a]
    refine valV_snoc k j y kvs ?_
    rw [valV_any] at a
    cases q : valV kvs k with
    | none => rfl
    | some x => rw [q] at a; exact (a rfl).elim
theorem length_putK (kvs : List (κ × V)) (k : κ) (v : V) : (putK kvs k v).length ≤ kvs.length + 1 := by
  unfold putK
  split
  · rw [List.length_map]; omega
  · rw [List.length_append, List.length_cons, List.length_nil]; omega
theorem RelO.isSome_eq {o : Option V} {u : Option Value} (r : RelO o u) : o.isSome = u.isSome := by
  cases o with
  | none => cases u with
    | none => rfl
    | some _ => exact (show False from r).elim
  | some _ => cases u with
    | none => exact (show False from r).elim
    | some _ => rfl
/-- raw tables of the same keys -/
theorem KV.val {kvs : List (κ × V)} {vs : List (κ × Value)} (r : KV kvs vs) (k : κ) : RelO (valV kvs k) (valueAt vs k) := by
  unfold KV at r
  induction r with
  | nil => exact True.intro
  | @cons p q ps qs h t ih =>
    obtain ⟨h1, h2⟩ := h
    by_cases e : p.1 = k
    · have e' : q.1 = k := h1.symm.trans e
      have b : valueAt (q :: qs) k = some q.2 := by simp [valueAt, List.find?_cons, e']
      rw [valV_pos e, b]; exact h2
    · have e' : ¬ q.1 = k := fun z => e (h1.trans z)
      have b : valueAt (q :: qs) k = valueAt qs k := by simp [valueAt, List.find?_cons, e']
      rw [valV_neg e, b]; exact ih
theorem KV.any {kvs : List (κ × V)} {vs : List (κ × Value)} (r : KV kvs vs) (k : κ) : (kvs.any fun kv => decide (kv.1 = k)) = vs.any fun kv => decide (kv.1 = k) := by
  unfold KV at r
  induction r with
  | nil => rfl
  | cons h t ih => rw [List.any_cons, List.any_cons, ih, h.1]
theorem KV.repl {kvs : List (κ × V)} {vs : List (κ × Value)} (r : KV kvs vs) (k : κ) {y : V} {u : Value} (ry : RelV y u) :
    KV (kvs.map fun kv => if kv.1 = k then (kv.1, y) else kv) (vs.map fun kv => if kv.1 = k then (kv.1, u) else kv) := by
  unfold KV at r ⊢
  induction r with
  | nil => exact .nil
  | @cons p q ps qs h t ih =>
    rw [List.map_cons, List.map_cons]
    refine .cons ?_ ih
    obtain ⟨h1, h2⟩ := h
    by_cases e : p.1 = k
    · rw [if_pos e, if_pos (h1.symm.trans e)]; exact ⟨h1, ry⟩
    · rw [if_neg e, if_neg (fun z => e (h1.trans z))]; exact ⟨h1, h2⟩
theorem KV.put {kvs : List (κ × V)} {vs : List (κ × Value)} (r : KV kvs vs) (k : κ) {y : V} {u : Value} (ry : RelV y u) : KV (putK kvs k y) (stored vs k u) := by
  unfold putK stored
  rw [r.any k]
  by_cases e : (vs.any fun kv => decide (kv.1 = k)) = true
  · rw [if_pos e, if_pos e]; exact r.repl k ry
  · rw [if_neg e, if_neg e]; exact Paired.snoc r ⟨rfl, ry⟩
theorem KV.length {kvs : List (κ × V)} {vs : List (κ × Value)} (r : KV kvs vs) : kvs.length = vs.length := Paired.length r
end


/-! ### a tracked dict, its keys ints and texts or tuples of these -/
theorem kV_is {P : Program} {w : World} {k : Key} {u : Value} (r : RelV (kV k) u) : (mixKind P w).is k u = true := by
  cases k with
  | inl i => obtain ⟨t, e⟩ := (show ∃ t, u = Value.int i t from r); subst e; exact mixKind_int P w i t
  | inr x => obtain ⟨t, e⟩ := (show ∃ t, u = Value.str x t from r); subst e; exact mixKind_str P w x t
theorem items_are {P : Program} {w : World} : ∀ {ks : List Key} {us : List Value}, Vals (ks.map kV) us → ItemsAre (mixKind P w) ks us
  | [], _, r => by rw [List.map_nil] at r; cases r; exact .nil
  | k :: ks, _, r => by
    rw [List.map_cons] at r
    cases r with
    | cons h t => exact .cons (kV_is h) (items_are t)

/-- raw entries of a dict with tuple keys -/
abbrev KT (H : Hp) : List (List Key × V) → List (List Key × Addr × Value) → Prop := Paired fun p q => p.1 = q.1 ∧ H q.2.1 = some (.tup (p.1.map kV)) ∧ RelV p.2 q.2.2
theorem KT.val {H : Hp} {kvs : List (List Key × V)} {xs : List (List Key × Addr × Value)} (r : KT H kvs xs) (k : List Key) : RelO (valV kvs k) ((atKey xs k).map (·.2)) := by
  induction r with
  | nil => exact True.intro
  | @cons p q ps qs h t ih =>
    obtain ⟨h1, _, h2⟩ := h
    by_cases e : p.1 = k
    · have e' : q.1 = k := h1.symm.trans e
      have b : atKey (q :: qs) k = some q.2 := by simp [atKey, List.find?_cons, e']
      rw [valV_pos e, b]; exact h2
    · have e' : ¬ q.1 = k := fun z => e (h1.trans z)
      have b : atKey (q :: qs) k = atKey qs k := by simp [atKey, List.find?_cons, e']
      rw [valV_neg e, b]; exact ih
theorem KT.repl {H : Hp} {kvs : List (List Key × V)} {xs : List (List Key × Addr × Value)} (r : KT H kvs xs) (k : List Key) {y : V} {u : Value} (ry : RelV y u) :
    KT H (kvs.map fun kv => if kv.1 = k then (kv.1, y) else kv) (xs.map (putAt k u)) := by
  induction r with
  | nil => exact .nil
  | @cons p q ps qs h t ih =>
    rw [List.map_cons, List.map_cons]
    refine .cons ?_ ih
    obtain ⟨h1, h2, h3⟩ := h
    unfold putAt
    by_cases e : p.1 = k
    · rw [if_pos e, if_pos (h1.symm.trans e)]; exact ⟨h1, h2, ry⟩
    · rw [if_neg e, if_neg (fun z => e (h1.trans z))]; exact ⟨h1, h2, h3⟩
theorem KT.put {H : Hp} {kvs : List (List Key × V)} {xs : List (List Key × Addr × Value)} (r : KT H kvs xs) (k : List Key) {b : Addr} {y : V} {u : Value} (hb : H b = some (.tup (k.map kV))) (ry : RelV y u) :
    KT H (putK kvs k y) (storedH xs k b u) := by
  have e : (kvs.any fun kv => decide (kv.1 = k)) = (atKey xs k).isSome := by
    rw [valV_any, (r.val k).isSome_eq, Option.isSome_map]
  unfold putK storedH
  rw [e]
  by_cases q : (atKey xs k).isSome = true
  · rw [if_pos q, if_pos q]; exact r.repl k ry
  · rw [if_neg q, if_neg q]; exact Paired.snoc r ⟨rfl, hb, ry⟩
theorem KT.keeps {H H' : Hp} {kvs : List (List Key × V)} {xs : List (List Key × Addr × Value)} (r : KT H kvs xs) (ht : ∀ b ys, H b = some (.tup ys) → H' b = some (.tup ys)) : KT H' kvs xs :=
  Paired.mapP r fun _ _ z => ⟨z.1, ht _ _ z.2.1, z.2.2⟩

section
variable {P : Program} {w : World} {H : Hp} {h : Heap} {a : Addr}
theorem rd_of {u : HO} (ok : HOk P w H h) (e : Rd H a u) : ObjOk P w H h a u := e.ok ok
theorem dk_rd {kvs : List (Key × V)} (ok : HOk P w H h) (e : Rd H a (.dK kvs)) : kvs.length ≤ sizeLine ∧ (a == sysModules) = false ∧ ∃ vs, KV kvs vs ∧ h.DictOf (mixKind P w) a vs :=
  show ObjOk P w H h a (.dK kvs) from rd_of ok e
theorem dk_of {kvs : List (Key × V)} (ok : HOk P w H h) (e : H a = some (.dK kvs)) : kvs.length ≤ sizeLine ∧ (a == sysModules) = false ∧ ∃ vs, KV kvs vs ∧ h.DictOf (mixKind P w) a vs := dk_rd ok (.inl e)
/-- a tracked tuple of ints and texts is a key -/
theorem key_of {ks : List Key} (ok : HOk P w H h) (e : H a = some (.tup (ks.map kV))) : (tupleKind (mixKind P w)).is h ks a := by
  obtain ⟨_, its, r, o, h1, h2, n, h3⟩ := (show ObjOk P w H h a (.tup (ks.map kV)) from ok a _ e)
  exact ⟨o, its.toArray, n, h1, h2, h3, by simpa using items_are r⟩
theorem dt_rd {kvs : List (List Key × V)} (ok : HOk P w H h) (e : Rd H a (.dT kvs)) : kvs.length ≤ sizeLine ∧ (a == sysModules) = false ∧
    ∃ xs, KT H kvs xs ∧ h.DictOfH (tupleKind (mixKind P w)) a xs := by
  obtain ⟨z, y, xs, r, o, es, ep, h1, h2, h3, h4, h5⟩ := (show ObjOk P w H h a (.dT kvs) from rd_of ok e)
  refine ⟨z, y, xs, r, o, es, ep, h1, h2, h3, h4, fun x hx => ?_, h5⟩
  have all : ∀ {l : List (List Key × V)} {m : List (List Key × Addr × Value)}, KT H l m → ∀ x ∈ m, (tupleKind (mixKind P w)).is h x.1 x.2.1 := by
    intro l m q
    induction q with
    | nil => intro x hx; exact nomatch hx
    | @cons p q ps qs hq t ih =>
      intro x hx
      rcases List.mem_cons.mp hx with e | hx
      · subst e
        exact key_of ok (by rw [← hq.1]; exact hq.2.1)
      · exact ih x hx
  exact all r x hx
theorem dt_of {kvs : List (List Key × V)} (ok : HOk P w H h) (e : H a = some (.dT kvs)) : kvs.length ≤ sizeLine ∧ (a == sysModules) = false ∧
    ∃ xs, KT H kvs xs ∧ h.DictOfH (tupleKind (mixKind P w)) a xs := dt_rd ok (.inl e)
end

/-- what the dict at a holds at the key y -/
def DGet (H : Hp) (a : Addr) (y : V) (r : Option V) : Prop :=
  (∃ kvs k, Rd H a (.dK kvs) ∧ y = kV k ∧ r = valV kvs k) ∨ ∃ kvs k b, Rd H a (.dT kvs) ∧ y = .ref b ∧ H b = some (.tup (k.map kV)) ∧ r = valV kvs k
/-- the heap behind a[y] = v -/
def DPut (H : Hp) (a : Addr) (y v : V) (H' : Hp) : Prop :=
  (∃ kvs k, H a = some (.dK kvs) ∧ y = kV k ∧ kvs.length < sizeLine ∧ H' = upd H a (.dK (putK kvs k v))) ∨
  ∃ kvs k b, H a = some (.dT kvs) ∧ y = .ref b ∧ H b = some (.tup (k.map kV)) ∧ kvs.length < sizeLine ∧ H' = upd H a (.dT (putK kvs k v))
theorem DGet.t {H : Hp} {a b : Addr} {kvs : List (List Key × V)} {k : List Key} (e : H a = some (.dT kvs)) (eb : H b = some (.tup (k.map kV))) : DGet H a (.ref b) (valV kvs k) := .inr ⟨kvs, k, b, .inl e, rfl, eb, rfl⟩
theorem DPut.t {H : Hp} {a b : Addr} {kvs : List (List Key × V)} {k : List Key} {v : V} (e : H a = some (.dT kvs)) (eb : H b = some (.tup (k.map kV))) (hl : kvs.length < sizeLine) :
    DPut H a (.ref b) v (upd H a (.dT (putK kvs k v))) := .inr ⟨kvs, k, b, e, rfl, eb, hl, rfl⟩


section
variable {X : Cx} {pins : List (Addr × Obj)} {σ : St} {H : Hp} {s : Shared} {a : Addr} {y v : V} {u r : Value} {o : Option V} {A : Around} {E : Value → Shared → Prop}

theorem Inv.big (I : Inv X pins σ H s) : sysModules < s.heap.objs.size := by
  have h : mainGlobals < s.heap.objs.size := (I.mod.glob.keeps I.bk).lt
  exact Nat.lt_trans (by decide) h

/-- d[y], there -/
theorem d_getItem {Q : Value → Shared → Prop} (hu : A.units + 1 < cLine) (I : Inv X pins σ H s) (g : DGet H a y (some v)) (ry : RelV y u) (h : ∀ w' s', Inv X pins σ H s' → RelV v w' → Q w' s') :
    wpAny (model X.prog X.w) A (getItem (.ref a) u) Q E s := by
  rcases g with ⟨kvs, k, e, ey, l⟩ | ⟨kvs, k, b, e, ey, eb, l⟩
  · subst ey
    obtain ⟨z, hd, vs, rel, dd⟩ := dk_rd I.hok e
    obtain ⟨w', hw, rw'⟩ := RelO.some_of (v := v) (o := valueAt vs k) (by rw [l]; exact rel.val k)
    exact wpAny_getItem_of (kV_is ry) dd.mapOf hw (h w' _ (I.tok _) rw')
  · subst ey
    cases (show u = Value.ref b from ry)
    obtain ⟨z, hd, xs, rel, dd⟩ := dt_rd I.hok e
    obtain ⟨w', hw, rw'⟩ := RelO.some_of (v := v) (o := (atKey xs k).map (·.2)) (by rw [l]; exact rel.val k)
    obtain ⟨p, hp, hp2⟩ := Option.map_eq_some_iff.mp hw
    refine wpAny_getItem_heap (tupleKind_room_in1 hu) (key_of I.hok eb) dd hp ?_
    rw [hp2]
    exact h w' _ (I.tok _) rw'
/-- a dict's object is replaced -/
theorem d_write {h' : Heap} {t' : Nat} {ob : HO} (I : Inv X pins σ H s) (mu : Mut (H a)) (hs : Heap.SameBut a s.heap h') (he : ∃ q, h'.get? a = some q) (new : ObjOk X.prog X.w (upd H a ob) h' a ob) :
    Inv X pins σ (upd H a ob) { s with heap := h', toks := t' } :=
  I.write (x := a) (e := a) mu (.inl rfl) (fun b q hb z => (hs.2 b hb).trans z) he new
theorem dk_new {P : Program} {w : World} {H' : Hp} {h' : Heap} {kvs : List (Key × V)} {vs : List (Key × Value)} (z : kvs.length ≤ sizeLine) (hd : (a == sysModules) = false) (rel : KV kvs vs) (dd : h'.DictOf (mixKind P w) a vs) :
    ObjOk P w H' h' a (.dK kvs) := ⟨z, hd, vs, rel, dd⟩
/-- d[y] = v -/
theorem d_setItem {H' : Hp} {Q : Unit → Shared → Prop} (hu : A.units + 1 < cLine) (I : Inv X pins σ H s) (g : DPut H a y v H') (ry : RelV y u) (rv : RelV v r) (h : ∀ s', Inv X pins σ H' s' → Q () s') :
    wpAny (model X.prog X.w) A (setItem (.ref a) u r) Q E s := by
  rcases g with ⟨kvs, k, e, ey, l, eH⟩ | ⟨kvs, k, b, e, ey, eb, l, eH⟩
  · subst ey eH
    obtain ⟨z, hd, vs, rel, dd⟩ := dk_of I.hok e
    have hz : vs.length ≤ sizeLine := by rw [← rel.length]; exact z
    have hl : (putK kvs k v).length ≤ sizeLine := by have := length_putK kvs k v; omega
    refine wpAny_setItem_pairs (hsz := hz) (kV_is ry) dd fun h' dd' hs => h _ ?_
    have he : ∃ q, h'.get? a = some q := let ⟨q, _, _, hq, _⟩ := dd'; ⟨q, hq⟩
    exact d_write I (by rw [e]; exact True.intro) hs he (dk_new hl hd (rel.put k rv) dd')
  · subst ey eH
    cases (show u = Value.ref b from ry)
    obtain ⟨z, hd, xs, rel, dd⟩ := dt_of I.hok e
    have hz : xs.length ≤ sizeLine := by rw [← Paired.length rel]; exact z
    have hl : (putK kvs k v).length ≤ sizeLine := by have := length_putK kvs k v; omega
    refine wpAny_setItem_heap (hsz := hz) (tupleKind_room_in1 hu) (key_of I.hok eb) dd fun h' dd' hs => h _ ?_
    obtain ⟨q, es, ep, hq, h2, h3, h4, _, h5⟩ := dd'
    refine d_write I (by rw [e]; exact True.intro) hs ⟨q, hq⟩ ⟨hl, hd, _, (rel.put k eb rv).keeps fun c ys ec => ?_, q, es, ep, hq, h2, h3, h4, h5⟩
    rw [upd_ne (ne_of ec e (fun z => nomatch z))]
    exact ec
end

section
variable {X : Cx} {pins : List (Addr × Obj)} {σ : St} {H : Hp} {s : Shared} {a : Addr} {kvs : List (Key × V)} {k : Key} {u : Value} {A : Around} {E : Value → Shared → Prop}
end


/-! ### readings and rules -/
/-- the element of a subscription, not a slice -/
def NoSl (i : Expr) : Prop := ∀ ov iv, subscripted i false ov iv = operate [ov, iv] (getItem ov iv)
theorem subD_of {prog : Program} {w : World} {A : Around} {E : Value → Shared → Prop} {s : Shared} {env : Env} {value slice : Expr} {pos : Pos} {T id : String} {Q : Value → Shared → Prop}
    (hl : typeLookup (.type T) "__getitem__" = pure (some (.builtin id))) (hs : NoSl slice)
    (h : wpAny (model prog w) A (eval value env) (fun o s₁ => wpAny (model prog w) A (eval slice env) (fun i s₂ => s₂.TypeIs o T ∧ wpAny (model prog w) A (getItem o i) Q E s₂) E s₁) E s) :
    wpAny (model prog w) A (eval (.Subscript value slice pos) env) Q E s := by
  refine Subscript_ (wpAny_mono h (fun o s₁ h₁ => wpAny_mono h₁ (fun i s₂ h₂ => ?_) fun _ _ x => x) fun _ _ x => x)
  obtain ⟨hT, h₂⟩ := h₂
  unfold subscriptTail
  refine wpAny_bind ?_
  rw [getitemInPython_of_ne hT.not_modules]
  refine wpAny_bind (wpAny_specialOf hT hl ?_)
  have fin : wpAny (model prog w) A (subscripted slice false o i) (fun r s₃ => wpAny (model prog w) A (letTemporaryGo value o r >>= fun _ => pure r) Q E s₃) E s₂ := by
    rw [hs o i]
    exact wpAny_operating (wpAny_mono h₂ (fun r s₃ h₃ => wpAny_bind (wpAny_letTemporaryGo (wpAny_pure h₃))) fun _ _ x => x)
  first
    | exact wpAny_pure (wpAny_bind fin)
    | exact wpAny_bind (wpAny_pure (wpAny_bind fin))
    | exact wpAny_bind fin

theorem dict_typeIs {X : Cx} {pins : List (Addr × Obj)} {σ : St} {H : Hp} {s : Shared} {a : Addr} {y : V} {o : Option V} (I : Inv X pins σ H s) (g : DGet H a y o) : s.TypeIs (.ref a) "dict" := by
  rcases g with ⟨kvs, k, e, _, _⟩ | ⟨kvs, k, b, e, _, _, _⟩
  · obtain ⟨_, _, vs, _, dd⟩ := dk_rd I.hok e
    exact dd.typeIs
  · obtain ⟨_, _, xs, _, dd⟩ := dt_rd I.hok e
    exact dd.typeIs
/-- d[y] -/
def tDGet (td ty : TE) : TE := fun σ H Q => td σ H fun x H1 => ty σ H1 fun y H2 => ∃ a v, x = .ref a ∧ DGet H2 a y (some v) ∧ Q v H2
/-- y in d, y not in d -/
def tDIn (ty td : TE) : TE := fun σ H Q => ty σ H fun y H1 => td σ H1 fun x H2 => ∃ a o, x = .ref a ∧ DGet H2 a y o ∧ Q (.bl o.isSome) H2
def tDNotIn (ty td : TE) : TE := fun σ H Q => ty σ H fun y H1 => td σ H1 fun x H2 => ∃ a o, x = .ref a ∧ DGet H2 a y o ∧ Q (.bl (!o.isSome)) H2
/-- d[y] = v -/
def sDPut (td ty tv : TE) : TS := fun D σ H => tv σ H fun v H1 => td σ H1 fun x H2 => ty σ H2 fun y H3 => ∃ a H4, x = .ref a ∧ DPut H3 a y v H4 ∧ D.nx σ H4
/-- d[y] op= v -/
def sDAug (td ty tv : TE) (rd : V → V → Hp → VK → Prop) : TS := fun D σ H => td σ H fun x H1 => ty σ H1 fun y H2 => ∃ a v, x = .ref a ∧ DGet H2 a y (some v) ∧
  tv σ H2 fun y2 H3 => rd v y2 H3 fun z H4 => ∃ H5, DPut H4 a y z H5 ∧ D.nx σ H5
/-- del d[y] -/
def sDDel (td ty : TE) : TS := fun D σ H => td σ H fun x H1 => ty σ H1 fun y H2 => ∃ a kvs k, x = .ref a ∧ H2 a = some (.dK kvs) ∧ y = kV k ∧ (valV kvs k).isSome = true ∧ D.nx σ (upd H2 a (.dK (dropK kvs k)))

section
variable {X : Cx} {o i e value : Expr} {pos pos' tpos : Pos} {td ty tv : TE}
theorem pe_dget (hu : X.A.units + 1 < cLine) (ho : PE X o td) (hi : PE X i ty) (hs : NoSl i) : PE X (.Subscript o i pos) (tDGet td ty) := by
  intro pins s σ H Q I h
  refine subD_of PySem.F.slot_dict_getitem.lookup hs (thn (ho pins s σ H _ I h) fun u s1 ⟨x, H1, I1, rx, q1⟩ => thn (hi pins s1 σ H1 _ I1 q1) fun iv s2 ⟨y, H2, I2, ry, a, v, ex, g, q2⟩ => ?_)
  subst ex
  obtain rfl : u = Value.ref a := rx
  exact ⟨dict_typeIs I2 g, d_getItem hu I2 g ry fun w' s3 I3 rw' => ⟨v, H2, I3, rw', q2⟩⟩
theorem ps_dput (hu : X.A.units + 1 < cLine) (ho : PE X o td) (hi : PE X i ty) (hv : PE X value tv) (hs : swapsWith value (some (.Subscript o i pos')) pos.line X.env = pure false) :
    PS X (.Assign [.Subscript o i pos'] value pos) (sDPut td ty tv) := by
  intro pins s σ H D I h
  refine wpAny_Assign_Subscript (thn (hv pins s σ H _ I h) fun r s1 ⟨v, H1, I1, rv, q1⟩ => thn (ho pins s1 σ H1 _ I1 q1) fun u s2 ⟨x, H2, I2, rx, q2⟩ => thn (hi pins s2 σ H2 _ I2 q2) fun iv s3 ⟨y, H3, I3, ry, a, H4, ex, g, q3⟩ => ?_) hs
  subst ex
  obtain rfl : u = Value.ref a := rx
  exact d_setItem hu I3 g ry rv fun s4 I4 => ⟨σ, H4, I4, q3⟩
end


/-! ### displays -/
theorem dt_empty {P : Program} {w : World} {H : Hp} (h : Heap) (hb : sysModules < h.objs.size) : ObjOk P w H (h.push { cls := .type "dict", data := .dict #[] }) h.objs.size (.dT []) :=
  ⟨Nat.zero_le _, beq_eq_false_iff_ne.mpr (Ne.symm (Nat.ne_of_lt hb)), [], .nil, _, #[], 0, Heap.get?_push_size _ rfl, ⟨rfl, rfl, rfl⟩, rfl, rfl, List.nodup_nil⟩
/-- {}, to be a dict of the kind that is wanted -/
def tDNewK : TE := fun _ H Q => ∀ p, H p = none → Q (.ref p) (upd H p (.dK []))
def tDNewT : TE := fun _ H Q => ∀ p, H p = none → Q (.ref p) (upd H p (.dT []))
section
variable {X : Cx} {pos : Pos}
theorem pe_dnewT : PE X (.Dict [] [] pos) tDNewT := fun pins s σ H Q I h =>
  wpAny_Dict_empty ⟨.ref s.heap.objs.size, _, I.laid (a := s.heap.objs.size) (o := .dT []) (t' := s.toks) (fun _ _ q => Heap.get?_push_of_some _ q) (Nat.le_refl _) (dt_empty s.heap I.big), rfl, h _ (I.hok.fresh (Nat.le_refl _))⟩
end

/-- the pairs of a display, from the left -/
def tPairs : List (TE × TE) → St → Hp → (List (V × V) → Hp → Prop) → Prop
  | [], _, H, Q => Q [] H
  | (tk, tv) :: r, σ, H, Q => tk σ H fun x H1 => tv σ H1 fun y H2 => tPairs r σ H2 fun ps H3 => Q ((x, y) :: ps) H3
abbrev VV : List (V × V) → List (Value × Value) → Prop := Paired fun p q => RelV p.1 q.1 ∧ RelV p.2 q.2
def PPs (X : Cx) (pos : Pos) (keys : List (Option Expr)) (values : List Expr) (trs : List (TE × TE)) : Prop :=
  ∀ (pins : List (Addr × Obj)) (s : Shared) (σ : St) (H : Hp) (Q : List (V × V) → Hp → Prop), Inv X pins σ H s → tPairs trs σ H Q →
    wpAny (model X.prog X.w) X.A (evalPairs (pairTrees keys values X.env pos)) (fun vs s' => ∃ ps H', Inv X pins σ H' s' ∧ VV ps vs ∧ Q ps H') X.xe s
def mergeK (kvs more : List (Key × V)) : List (Key × V) := more.foldl (fun acc kv => putK acc kv.1 kv.2) kvs
/-- {k: v, ..} with keys ints and texts; the new dict stands empty while the pairs are made -/
def tDisp (trs : List (TE × TE)) : TE := fun σ H Q => ∀ p, H p = none → tPairs trs σ (upd H p (.dK [])) fun ps H2 => H2 p = some (.dK []) ∧ ∃ kvs : List (Key × V), ps = kvs.map (fun kv => (kV kv.1, kv.2)) ∧ kvs.length ≤ 15 ∧ Q (.ref p) (upd H2 p (.dK (mergeK [] kvs)))
/-! ### methods -/
/-- a method call o.m(e) of a built-in, with one argument: what must be seen of the text -/
structure M1 (X : Cx) (o : Expr) (m : Str) (apos : Pos) (e : Expr) (cpos : Pos) : Prop where
  base : attributeBase o m X.env (eval o X.env) = eval o X.env
  few : ((backTo cpos (starEach [e] X.env)).all (fun x => !x.1) && (backToKw cpos (keywordEach [] X.env)).all (fun x => x.1.isSome)
    && decide (([e] : List Expr).length + ([] : List Keyword).length + (if ([] : List Keyword).isEmpty then 0 else 1) < 30)) = true
  line : (apos.endLine == cpos.line) = true
  trees : backTo cpos (starEach [e] X.env) = [(false, eval e X.env)]
structure M2 (X : Cx) (o : Expr) (m : Str) (apos : Pos) (e f : Expr) (cpos : Pos) : Prop where
  base : attributeBase o m X.env (eval o X.env) = eval o X.env
  few : ((backTo cpos (starEach [e, f] X.env)).all (fun x => !x.1) && (backToKw cpos (keywordEach [] X.env)).all (fun x => x.1.isSome)
    && decide (([e, f] : List Expr).length + ([] : List Keyword).length + (if ([] : List Keyword).isEmpty then 0 else 1) < 30)) = true
  line : (apos.endLine == cpos.line) = true
  trees : backTo cpos (starEach [e, f] X.env) = [(false, eval e X.env), (false, eval f X.env)]

/-- a is a dict, whatever its keys -/
def IsD (H : Hp) (a : Addr) : Prop := (∃ kvs, Rd H a (.dK kvs)) ∨ ∃ kvs, Rd H a (.dT kvs)
section
variable {X : Cx} {pins : List (Addr × Obj)} {σ : St} {H : Hp} {s : Shared} {a : Addr} {y d : V} {u r : Value} {o : Option V} {A : Around} {E : Value → Shared → Prop}
end

def tDGet1 (td ty : TE) : TE := fun σ H Q => td σ H fun x H1 => ∃ a, x = .ref a ∧ IsD H1 a ∧ ty σ H1 fun y H2 => ∃ o, DGet H2 a y o ∧ Q (o.getD .non) H2
def tDGet2 (td ty tx : TE) : TE := fun σ H Q => td σ H fun x H1 => ∃ a, x = .ref a ∧ IsD H1 a ∧ ty σ H1 fun y H2 => tx σ H2 fun z H3 => ∃ o, DGet H3 a y o ∧ Q (o.getD z) H3
/-- d.pop(k): there; d.pop(k, x): there or not -/
def tDPop1 (td ty : TE) : TE := fun σ H Q => td σ H fun x H1 => ∃ a, x = .ref a ∧ IsD H1 a ∧ ty σ H1 fun y H2 => ∃ kvs k v, H2 a = some (.dK kvs) ∧ y = kV k ∧ valV kvs k = some v ∧ Q v (upd H2 a (.dK (dropK kvs k)))
def tDPop2 (td ty tx : TE) : TE := fun σ H Q => td σ H fun x H1 => ∃ a, x = .ref a ∧ IsD H1 a ∧ ty σ H1 fun y H2 => tx σ H2 fun z H3 => ∃ kvs k, H3 a = some (.dK kvs) ∧ y = kV k ∧
  (∀ v, valV kvs k = some v → Q v (upd H3 a (.dK (dropK kvs k)))) ∧ (valV kvs k = none → Q z H3)
section
variable {X : Cx} {o e f : Expr} {apos cpos : Pos} {td ty tx : TE}
end

/-! ### dict(d): a copy -/
section
variable {X : Cx} {pins : List (Addr × Obj)} {σ : St} {H : Hp} {s : Shared} {a : Addr} {kvs : List (Key × V)} {A : Around} {E : Value → Shared → Prop}
end


section
variable {X : Cx} {pins : List (Addr × Obj)} {σ : St} {H : Hp} {s : Shared} {a : Addr} {y : V} {u : Value} {A : Around} {E : Value → Shared → Prop}
end
end L2

namespace L2
open PySem PySem.Spec PyProof.Rows

section
variable {prog : Program} {w : World} {A : Around} {E : Value → Shared → Prop}
end

section
variable {X : Cx}
end
end L2

namespace L2
open PySem PySem.Spec PyProof.Rows

section
variable {X : Cx} {pins : List (Addr × Obj)} {σ : St} {H : Hp} {s : Shared} {h' : Heap}
/-! ### locking a thing while a statement runs -/
end
/-- the statement runs while the thing at d is locked (read, not written); d and what stands there are the reading's choice -/
def tLock (t : TS) : TS := fun D σ H => ∃ d u, H d = some u ∧ Mut (some u) ∧ ∀ od, t ⟨fun σ' H' => H' d = some (.frz od u) ∧ D.nx σ' (upd H' d u), fun v H' => H' d = some (.frz od u) ∧ D.rt v (upd H' d u), fun σ' H' => H' d = some (.frz od u) ∧ D.bk σ' (upd H' d u), fun σ' H' => H' d = some (.frz od u) ∧ D.ct σ' (upd H' d u)⟩ σ (upd H d (.frz od u))
def tLockE (t : TE) : TE := fun σ H Q => ∃ d u, H d = some u ∧ Mut (some u) ∧ ∀ od, t σ (upd H d (.frz od u)) fun v H' => H' d = some (.frz od u) ∧ Q v (upd H' d u)
section
variable {X : Cx}
/-! ### one iterator just laid -/
end

/-! ### range with a step -/
/-- lo, lo + c, .. (n of them) -/
def Itc (lo c : Int) (n : Nat) : It := ⟨fun i _ => i < n, fun i H x H' => H' = H ∧ x = .int (lo + (i : Nat) * c), fun i _ => n ≤ i⟩
/-- range(i, j, c): small bounds, n items -/
def RgC (i j c : Int) (n : Nat) : Prop := c ≠ 0 ∧ c.natAbs < 1073741824 ∧ Builtin.Range.small i j c = true ∧ Builtin.Range.rangeSize i j c = n
def iRng3 (ta : TA) : TI := fun σ H R => ta σ H fun vs H1 => ∃ (i j c : Int) (n : Nat), vs = [.int i, .int j, .int c] ∧ RgC i j c n ∧ R (Itc i c n) H1
section
variable {X : Cx} {tg : Expr}
end
/-! ### reversed(list) -/
/-- the list at a (n items at the start, which the loop leaves there), from its end -/
def Itv (K : PySem.W.Frag) (a : Addr) (n : Nat) : It :=
  ⟨fun i H => i < n ∧ ∃ (xs : List V) (x : V), SqL K H a xs ∧ xs[n - 1 - i]? = some x, fun i H x H' => H' = H ∧ ∀ xs, SqL K H a xs → xs[n - 1 - i]? = some x, fun i _ => n ≤ i⟩
def iRev (K : PySem.W.Frag) (ta : TA) : TI := fun σ H R => ta σ H fun vs H1 => ∃ (a : Addr) (xs : List V), vs = [.ref a] ∧ SqL K H1 a xs ∧ R (Itv K a xs.length) H1
section
variable {X : Cx} {tg : Expr}
end

/-! ### a str -/
def Its (x : Str) : It := ⟨fun i _ => i < x.cps.size, fun i H v H' => H' = H ∧ ∃ c, x.cps[i]? = some c ∧ v = .str ⟨#[c]⟩, fun i _ => x.cps.size ≤ i⟩
def iStr (te : TE) : TI := fun σ H R => te σ H fun v H1 => ∃ x, v = .str x ∧ R (Its x) H1
/-! ### a dict's keys: any dict's entries -/
section
variable {prog : Program} {w : World} {A : Around} {E : Value → Shared → Prop} {s : Shared}
end

/-! ### a locked dict -/
section
variable {X : Cx} {pins : List (Addr × Obj)} {σ : St} {H : Hp} {s : Shared} {d : Addr} {o : Obj}
end

/-- the keys of the locked dict at d, in their order -/
def Itk (d : Addr) (o : Obj) (kvs : List (Key × V)) : It :=
  ⟨fun i H => H d = some (.frz o (.dK kvs)) ∧ i < kvs.length, fun i H x H' => H' = H ∧ ∃ k v, kvs[i]? = some (k, v) ∧ x = kV k, fun i H => H d = some (.frz o (.dK kvs)) ∧ kvs.length ≤ i⟩
/-- .. of tuple keys: the key's own tuple -/
def Itkt (d : Addr) (o : Obj) (kvs : List (List Key × V)) : It :=
  ⟨fun i H => H d = some (.frz o (.dT kvs)) ∧ i < kvs.length, fun i H x H' => H' = H ∧ ∃ (k : List Key) (v : V) (q : Addr), kvs[i]? = some (k, v) ∧ x = .ref q ∧ H q = some (.tup (k.map kV)), fun i H => H d = some (.frz o (.dT kvs)) ∧ kvs.length ≤ i⟩
/-- the values -/
def Itd (d : Addr) (o : Obj) (kvs : List (Key × V)) : It :=
  ⟨fun i H => H d = some (.frz o (.dK kvs)) ∧ i < kvs.length, fun i H x H' => H' = H ∧ ∃ k, kvs[i]? = some (k, x), fun i H => H d = some (.frz o (.dK kvs)) ∧ kvs.length ≤ i⟩
/-- the pairs, each a new tuple -/
def Iti (d : Addr) (o : Obj) (kvs : List (Key × V)) : It :=
  ⟨fun i H => H d = some (.frz o (.dK kvs)) ∧ i < kvs.length, fun i H x H' => ∃ T k v, kvs[i]? = some (k, v) ∧ x = .ref T ∧ H T = none ∧ H' = upd H T (.tup [kV k, v]), fun i H => H d = some (.frz o (.dK kvs)) ∧ kvs.length ≤ i⟩
section
variable {P : Program} {w : World} {K : PySem.W.Frag} {tg : Expr} {d : Addr} {o : Obj} {es : Array DictEntry} {ep : Nat}
end

/-! ### for k in d, d.keys(), d.values(), d.items() -/
/-- the dict is locked (tLock, or by the caller) -/
def iKeys (td : TE) : TI := fun σ H R => td σ H fun x H1 => ∃ d o, x = .ref d ∧ ((∃ kvs, H1 d = some (.frz o (.dK kvs)) ∧ R (Itk d o kvs) H1) ∨ ∃ kvs, H1 d = some (.frz o (.dT kvs)) ∧ R (Itkt d o kvs) H1)
def iVals (td : TE) : TI := fun σ H R => td σ H fun x H1 => ∃ d o kvs, x = .ref d ∧ H1 d = some (.frz o (.dK kvs)) ∧ R (Itd d o kvs) H1
def iItems (td : TE) : TI := fun σ H R => td σ H fun x H1 => ∃ d o kvs, x = .ref d ∧ H1 d = some (.frz o (.dK kvs)) ∧ R (Iti d o kvs) H1
def iKeysM (td : TE) : TI := fun σ H R => td σ H fun x H1 => ∃ d o kvs, x = .ref d ∧ H1 d = some (.frz o (.dK kvs)) ∧ R (Itk d o kvs) H1
section
variable {X : Cx} {tg e : Expr} {td : TE} {apos cpos : Pos}
end

/-! ### enumerate(list) -/
/-- the list at a as it stands at each turn, each item in a new pair -/
def Ite (K : PySem.W.Frag) (a : Addr) : It :=
  ⟨fun i H => ∃ (xs : List V) (x : V), SqL K H a xs ∧ xs[i]? = some x, fun i H v H' => ∃ T x, v = .ref T ∧ H T = none ∧ H' = upd H T (.tup [.int (i : Nat), x]) ∧ ∀ xs, SqL K H a xs → xs[i]? = some x, fun i H => ∃ xs : List V, SqL K H a xs ∧ xs.length ≤ i⟩
def iEnum (K : PySem.W.Frag) (ta : TA) : TI := fun σ H R => ta σ H fun vs H1 => ∃ a xs, vs = [.ref a] ∧ SqL K H1 a xs ∧ R (Ite K a) H1
/-! ### zip(list, list) -/
/-- the lists at a and b as they stand at each turn, the items in new pairs -/
def Itz (K : PySem.W.Frag) (a b : Addr) : It :=
  ⟨fun i H => ∃ (xs ys : List V) (x y : V), SqL K H a xs ∧ SqL K H b ys ∧ xs[i]? = some x ∧ ys[i]? = some y,
    fun i H v H' => ∃ T x y, v = .ref T ∧ H T = none ∧ H' = upd H T (.tup [x, y]) ∧ (∀ xs, SqL K H a xs → xs[i]? = some x) ∧ ∀ ys, SqL K H b ys → ys[i]? = some y,
    fun i H => ∃ xs ys : List V, SqL K H a xs ∧ SqL K H b ys ∧ (xs.length ≤ i ∨ ys.length ≤ i)⟩
def iZip (K : PySem.W.Frag) (ta : TA) : TI := fun σ H R => ta σ H fun vs H1 => ∃ a b xs ys, vs = [.ref a, .ref b] ∧ SqL K H1 a xs ∧ SqL K H1 b ys ∧ R (Itz K a b) H1
end L2

section 
namespace Bits
open PySem PyProof.Rows

end Bits
end 

section 
namespace TL
open PySem PySem.Builtin PySem.Builtin.Str PySem.StrLaws

abbrev tl (x : Str) : List Nat := x.cps.toList
/-! ### the list functions -/
/-- S stands at the head of l -/
def pre (S l : List Nat) : Bool := l.take S.length == S
/-- l cut at each S from the left; k signs are still to be passed over -/
def spl (S : List Nat) : Nat → List Nat → List Nat → List (List Nat)
  | _, acc, [] => [acc]
  | 0, acc, c :: r => if pre S (c :: r) = true then acc :: spl S (S.length - 1) [] r else spl S 0 (acc ++ [c]) r
  | k + 1, acc, _ :: r => spl S k acc r
/-- what stands before the first S, and behind it -/
def par (S : List Nat) : List Nat → List Nat → Option (List Nat × List Nat)
  | _, [] => none
  | acc, c :: r => if pre S (c :: r) = true then some (acc, (c :: r).drop S.length) else par S (acc ++ [c]) r

/-! ### the model's split and partition are these -/
/-! ### computing spl and par -/
/-- joined lists -/
def joinL (S : List Nat) : List (List Nat) → List Nat
  | [] => []
  | [p] => p
  | p :: q :: r => p ++ (S ++ joinL S (q :: r))
/-! ### digits -/
/-- the signs of a number -/
def numL (n : Nat) : List Nat := (Nat.toDigits 10 n).map Char.toNat
/-! ### words: x.split() -/
def wstep (st : List (List Nat) × List Nat) (c : Nat) : List (List Nat) × List Nat :=
  if Unicode.isSpace c = true then (if st.2 = [] then st else (st.1 ++ [st.2], [])) else (st.1, st.2 ++ [c])
def wfin (st : List (List Nat) × List Nat) : List (List Nat) := if st.2 = [] then st.1 else st.1 ++ [st.2]
end TL
end 

namespace L2
open PySem PySem.Spec PyProof.Rows

/-- a new list of texts, tracked -/
def rNewStrs (ys : List Str) : Hp → VK → Prop := fun H Q => ∀ p, H p = none → Q (.ref p) (upd H p (.lst (ys.map V.str)))

section
variable {X : Cx} {pins : List (Addr × Obj)} {σ : St} {H : Hp} {s : Shared} {Q : VK}
end

section
variable {X : Cx}

/-! ### of a text alone -/
/-! ### of a text and a text -/
end

section
variable {X : Cx} {o e : Expr} {to te : TE}
def tM0 (r : V → List V → Hp → VK → Prop) (to : TE) : TE := fun σ H Q => to σ H fun x H1 => (∃ a, x = .str a) ∧ r x [] H1 Q
def tM1 (r : V → List V → Hp → VK → Prop) (to te : TE) : TE := fun σ H Q => to σ H fun x H1 => (∃ a, x = .str a) ∧ te σ H1 fun y H2 => r x [y] H2 Q
end
end L2

namespace L2
open PySem PySem.Spec PyProof.Rows

section
variable {X : Cx}
end

/-! ### slices of a text -/
/-- a part, clipped, as the text's slice reckons it -/
def clipS (n d : Nat) : Option Int → Int
  | none => (d : Int)
  | some i => max 0 (min (if i < 0 then i + (n : Int) else i) (n : Int))
/-- z[lo:hi] -/
def cutS (z : Str) (lo hi : Option Int) : Str :=
  ⟨((z.cps.toList.drop (HT.sIx z.length 0 lo)).take (HT.sIx z.length z.length hi - HT.sIx z.length 0 lo)).toArray⟩
def rSlS : V → Option Int → Option Int → Hp → VK → Prop := fun x lo hi H Q => ∃ z, x = .str z ∧ z.length ≤ sizeLine ∧ Q (.str (cutS z lo hi)) H
end L2

namespace Att
open PySem PySem.W PySem.Calls PyProof.Rows

/-! ### the script -/
/-! ### the attachment: holds_open's last premise (the goal 'hc' behind k_head) from a wpAny of the law's body -/
/-! ### rules over ANY heap (no ledger) from facts about the written part K: the library's own take a ledger (News) for what they write -/
section
variable {prog : Program} {w : World} {A : Around} {E : Value → Shared → Prop} {s : Shared} {K : Frag}

/-! the whole heap as the ledger: makes every rule that writes through a ledger a rule over any heap -/
def noObjs (h : Heap) : Heap := { h with objs := #[] }
def ledger (h : Heap) (L d : Addr) : List (Addr × Obj) := (List.range h.objs.size).filterMap fun a => if a = L ∨ a = d then none else (h.get? a).map fun o => (a, o)
end
end Att

namespace L2
open PySem PySem.Spec PyProof.Rows

/-- nothing is tracked but the script, known to the object (or it is an object of the module) -/
def Only (H : Hp) : Prop := ∀ b, H b = none ∨ ∃ o xs, H b = some (.frz o (.lst xs))

end L2

namespace L2
open PySem PySem.Spec PyProof.Rows

abbrev KOf {K : PySem.W.Frag} {h : Heap} (_ : K.In h) : PySem.W.Frag := K

end L2

/- THE LAST THEOREM (shape; LID, My.* are yours):
   My.Adr: a structure of the addresses that your layer names (classes, functions); My.Txt K t: a structure (Prop) of the equations over K;
   My.txt_mk : {K} {implicit addresses ..} (e1 : nsIn K mainGlobals "law" = some (some (.ref f))) (e2 : K.lookup f = some ⟨oc, od, .func (fnOf "law" "law" params body scope dV kV doc pm an cdv ct), sl⟩) (e3 : codeIn K cdv "law" = true) .. : ∃ t, My.Txt K t

(the tactic k_is has no namespace: write k_is) -/

/-! SHORT WORDS over the layer: a def of the text, its body, what a loop and a test want. -/
namespace L2
open PySem PySem.Spec PyProof.Rows

/-! ### the text by places -/
/-- the j-th statement of a class's body -/
def inClass (s : Stmt) (j : Nat) : Stmt := match s with
  | .ClassDef _ _ _ body _ _ _ _ _ _ _ => body.getD j (.Pass ⟨0, 0, 0, 0⟩)
  | _ => .Pass ⟨0, 0, 0, 0⟩
def defArgs (s : Stmt) : Arguments := match s with
  | .FunctionDef _ a _ _ _ _ _ _ _ _ => a
  | _ => { posonlyargs := [], args := [], vararg := none, kwonlyargs := [], kw_defaults := [], kwarg := none, defaults := [] }
def defBody (s : Stmt) : List Stmt := match s with
  | .FunctionDef _ _ b _ _ _ _ _ _ _ => b
  | _ => []
def defScope (s : Stmt) : Scope := match s with
  | .FunctionDef _ _ _ _ _ _ sc _ _ _ => sc
  | _ => { kind := .function, names := [], isGenerator := false, isCoroutine := false }

/-! ### no exception leaves a def -/
abbrev CX0 : CXT := fun _ _ _ _ _ _ => False
abbrev E0 : XK := fun _ _ _ => False
theorem pass0 {X : Cx} : Passes CX0 X E0 := fun _ _ _ _ _ _ _ h => h.elim

/-! ### a def (or method) of the text as it stands behind the top -/
structure Fun (K : PySem.W.Frag) (x qual : Str) (st : Stmt) (f : Addr) (fd : FuncData) : Prop where
  ex : ∃ (oc : Value) (od : Option Addr) (kV doc pm : Value) (an : Option Addr) (cdv ct : Value) (osl : Array (Option Value)),
    fd = PySem.W.fnOf x qual (defArgs st) (defBody st) (defScope st) .none kV doc pm an cdv ct ∧ K.lookup f = some ⟨oc, od, .func fd, osl⟩ ∧ PySem.W.codeIn K cdv qual = true
  kp : PySem.W.keepIn K (.ref f) = true
section
variable {P : Program} {w : World} {K : PySem.W.Frag} {mg : Str → Option Value} {base : Heap}
/-- THE RULE for a def: its body as a term of rules, and the reading of that term -/
theorem Fun.ok {x qual : Str} {st : Stmt} {f : Addr} {fd : FuncData} {N ps : List Str} {k : Nat} {sp : Sp} (F : Fun K x qual st f fd) (S : FnScope N ps (defScope st)) (len : ∀ vs H Q E, sp vs H Q E → vs.length = ps.length)
    (hbody : ∀ (cdv : Value) (A : Around) (outer : List Env) (s : Shared) (H : Hp) (vs : List V) (Q : VK) (E : XK), Room k (A.deeper (envOfC qual (defScope st) s.heap.objs.size f cdv)) → sp vs H Q E →
      ∃ t, PSs (cxOf CX0 P w K mg base N qual (defScope st) f cdv A outer s H E).nox (defBody st) t ∧ t { nx := fun _ H' => Q .non H', rt := Q } (start N vs) H) : FnOk P w K mg base CX0 (k + 1) f fd ps sp := by
  obtain ⟨oc, od, kV, doc, pm, an, cdv, ct, osl, rfl, lk, hcd⟩ := F.ex
  refine fn_of lk hcd S len fun A outer s H vs Q E hr hsp => ?_
  obtain ⟨t, h, q⟩ := hbody cdv A outer s H vs Q E hr hsp
  exact ⟨t, h.nox, q⟩
/-- how its arguments bind (no defaults): h is «fun _ _ _ _ _ _ us hl => match us, hl with | [_, _], _ => rfl», one _ a parameter -/
theorem Fun.binds {x qual : Str} {st : Stmt} {f : Addr} {fd : FuncData} {ps : List Str} (F : Fun K x qual st f fd)
    (h : ∀ (kV doc pm : Value) (an : Option Addr) (cdv ct : Value) (us : List Value), us.length = ps.length → bindArgs (PySem.W.fnOf x qual (defArgs st) (defBody st) (defScope st) .none kV doc pm an cdv ct) ⟨us, []⟩ = pure (ps.zip us)) : Binds K fd ps [] := by
  obtain ⟨oc, od, kV, doc, pm, an, cdv, ct, osl, rfl, lk, hcd⟩ := F.ex
  exact .all (h kV doc pm an cdv ct)
theorem fun_mk {x qual : Str} {st : Stmt} {f : Addr} {oc : Value} {od an : Option Addr} {osl : Array (Option Value)} {kV doc pm cdv ct : Value} (l : K.lookup f = some ⟨oc, od, .func (PySem.W.fnOf x qual (defArgs st) (defBody st) (defScope st) .none kV doc pm an cdv ct), osl⟩)
    (c : PySem.W.codeIn K cdv qual = true) (k : PySem.W.keepIn K (.ref f) = true) : Fun K x qual st f (PySem.W.fnOf x qual (defArgs st) (defBody st) (defScope st) .none kV doc pm an cdv ct) := ⟨⟨oc, od, kV, doc, pm, an, cdv, ct, osl, rfl, l, c⟩, k⟩
end
theorem hu_of {A : Around} {k : Nat} (hr : Room k A) : A.units + 1 < cLine := Nat.lt_of_le_of_lt (Nat.add_le_add_left (by decide : 1 ≤ 64) _) hr.units
theorem small1000 {n : Nat} (h : n ≤ 1000) : n < sizeLine := Nat.lt_of_le_of_lt h (by decide)

/-! ### expressions in short: the name that stands in the i-th slot -/
section
variable {X : Cx}
theorem pv (i : Nat) {x : Str} {pos : Pos} (hN : X.N[i]? = some x := by rfl) (hv : Vis X.env.scope x := by first | exact Or.inl rfl | exact Or.inr (Or.inl rfl) | exact Or.inr (Or.inr rfl)) (hd : (x == ("__debug__" : Str)) = false := by decide)
    (hcd : (x == ("__classdict__" : Str)) = false := by decide) : PE X (.Name x pos) (tVar i) := pe_var hN hv hd hcd
end

/-! ### tests -/
theorem iteF {A B : Prop} (h : B) : if false = true then A else B := by
  rw [if_neg Bool.false_ne_true]
  exact h
theorem iteT {A B : Prop} (h : A) : if true = true then A else B := by
  rw [if_pos rfl]
  exact h
theorem ite2 {c A B : Prop} [Decidable c] (h1 : c → A) (h2 : ¬ c → B) : if c then A else B := by
  by_cases h : c
  · rw [if_pos h]
    exact h1 h
  · rw [if_neg h]
    exact h2 h
/-! ### heaps -/
/-- all that was tracked is as it was -/
def Same (H H' : Hp) : Prop := ∀ b o, H b = some o → H' b = some o
theorem Same.trans {H H1 H2 : Hp} (a : Same H H1) (b : Same H1 H2) : Same H H2 := fun c o h => b c o (a c o h)
theorem Same.free {H H' : Hp} (e : Same H H') {l : Addr} (h : H' l = Option.none) : H l = Option.none := by
  cases q : H l with
  | none => rfl
  | some o =>
    rw [e l o q] at h
    cases h
/-! ### a dict's pairs: keys that differ -/
section
variable {κ : Type} [DecidableEq κ]
theorem nd_snoc : ∀ {l : List κ} {k : κ}, l.Nodup → ¬ k ∈ l → (l ++ [k]).Nodup
  | [], k, _, _ => by simp
  | a :: r, k, h, hk => by
    obtain ⟨h1, h2⟩ := List.nodup_cons.mp h
    show (a :: (r ++ [k])).Nodup
    refine List.nodup_cons.mpr ⟨fun m => ?_, nd_snoc h2 fun m => hk (List.mem_cons.mpr (Or.inr m))⟩
    rcases List.mem_append.mp m with q | q
    · exact h1 q
    · exact hk (List.mem_cons.mpr (Or.inl (List.mem_singleton.mp q).symm))
end
/-! ### lists -/
theorem at_of {xs : List V} {z : Int} {j : Nat} {v : V} (e : z = (j : Int)) (h : xs[j]? = some v) : atI xs z = some v := by
  rw [e]
  exact atI_nat h
theorem nd_ix {α : Type} {l : List α} (hN : l.Nodup) {i j : Nat} {x : α} (a : l[i]? = some x) (b : l[j]? = some x) : i = j := by
  obtain ⟨h1, e1⟩ := List.getElem?_eq_some_iff.mp a
  obtain ⟨h2, e2⟩ := List.getElem?_eq_some_iff.mp b
  exact (List.getElem_inj hN).mp (e1.trans e2.symm)
/-- a new instance and its __init__ leave all that was tracked as it was -/
theorem Same.made {H H1 : Hp} {x dx C : Addr} (nx : H x = Option.none) (nd : H dx = Option.none) (k : ∀ b o, (upd (upd H dx (.own x)) x (.ins C dx [])) b = some o → b ≠ x → H1 b = some o) : Same H H1 := fun b o e =>
  k b o (by rw [upd_ne (ne_of_none e nx), upd_ne (ne_of_none e nd)]; exact e) (ne_of_none e nx)
end L2

section
set_option Elab.async false
set_option linter.all false
set_option maxRecDepth 100000
set_option maxHeartbeats 2000000
namespace L2
open PySem PySem.Spec PyProof.Rows
open PySem.W (WData Codec OpenSpec Well WellAll ReadsW ReadsAllW)
/-! ### an answer as data -/
mutual
/-- x stands for the datum d, lists and tuples all the way -/
inductive Dw (K : PySem.W.Frag) (H : Hp) : V → WData → Prop
  | non : Dw K H .non .none
  | bl (b : Bool) : Dw K H (.bl b) (.bool b)
  | int (i : Int) : Dw K H (.int i) (.int i)
  | str (x : Str) : Dw K H (.str x) (.str x)
  | byt (b : Array UInt8) : Dw K H (.byt b) (.bytes b.toList)
  | lst {a : Addr} {xs : List V} {ds : List WData} : SqL K H a xs → DwAll K H xs ds → Dw K H (.ref a) (.list ds)
  | tup {a : Addr} {xs : List V} {ds : List WData} : SqT K H a xs → DwAll K H xs ds → Dw K H (.ref a) (.tuple ds)
inductive DwAll (K : PySem.W.Frag) (H : Hp) : List V → List WData → Prop
  | nil : DwAll K H [] []
  | cons {v : V} {vs : List V} {d : WData} {ds : List WData} : Dw K H v d → DwAll K H vs ds → DwAll K H (v :: vs) (d :: ds)
end
theorem dw_ints {K : PySem.W.Frag} {H : Hp} : ∀ ns : List Int, DwAll K H (ns.map V.int) (ns.map WData.int)
  | [] => .nil
  | n :: r => .cons (.int n) (dw_ints r)
theorem ints_dw {K : PySem.W.Frag} {H : Hp} : ∀ (ns : List Int) (xs : List V), DwAll K H xs (ns.map WData.int) → xs = ns.map V.int
  | [], xs, h => by
    cases h
    rfl
  | n :: r, xs, h => by
    cases h with
    | cons h1 h2 =>
      cases h1
      rw [ints_dw r _ h2] <;> rfl
section
variable {P : Program} {w : World} {K : PySem.W.Frag} {H : Hp} {h : Heap} {R : PySem.W.WRecords} {cl : Str → Option Addr}
theorem sqL_at {a : Addr} {xs : List V} (hok : HOk P w H h) (KX : K.In h) (q : SqL K H a xs) : ∃ (its : List Value) (o : Obj) (n : Nat), Vals xs its ∧ h.get? a = some o ∧ o.cls = .type "list" ∧ o.data = .seq its.toArray n := by
  rcases q with q | ⟨o, its, n, e, hc, _, hd, _, hv⟩
  · obtain ⟨_, its, n, hv, e⟩ := (show ObjOk P w H h a (.lst xs) from q.ok hok)
    exact ⟨its, _, n, hv, e, rfl, rfl⟩
  · exact ⟨its.toList, o, n, hv, KX _ _ e, hc, by simp [hd]⟩
theorem sqT_at {a : Addr} {xs : List V} (hok : HOk P w H h) (KX : K.In h) (q : SqT K H a xs) : ∃ (its : List Value) (o : Obj) (n : Nat), Vals xs its ∧ h.get? a = some o ∧ o.cls = .type "tuple" ∧ o.data = .seq its.toArray n := by
  rcases q with q | ⟨o, its, n, e, hc, hd, _, hv⟩
  · obtain ⟨_, its, hv, o, e, hc, n, hd⟩ := (show ObjOk P w H h a (.tup xs) from q.ok hok)
    exact ⟨its, o, n, hv, e, hc, hd⟩
  · exact ⟨its.toList, o, n, hv, KX _ _ e, hc, by simp [hd]⟩
mutual
theorem Dw.reads (hok : HOk P w H h) (KX : K.In h) : ∀ (d : WData) (v : V) (u : Value), Dw K H v d → RelV v u → ∃ as, ReadsW R cl h u d as
  | .none, _, _, x, r => by
    cases x
    cases r
    exact ⟨_, ReadsW.none⟩
  | .bool b, _, _, x, r => by
    cases x
    cases r
    exact ⟨_, ReadsW.bool b⟩
  | .int i, _, _, x, r => by
    cases x
    obtain ⟨t, rfl⟩ := r
    exact ⟨_, ReadsW.int i t⟩
  | .str s, _, _, x, r => by
    cases x
    obtain ⟨t, rfl⟩ := r
    exact ⟨_, ReadsW.str s t⟩
  | .bytes b, _, _, x, r => by
    cases x
    obtain ⟨t, rfl⟩ := r
    exact ⟨_, ReadsW.bytes _ t⟩
  | .list ds, _, _, x, r => by
    cases x with
    | lst hs ha =>
      cases r
      obtain ⟨its, o, n, rv, ho, hc, hd⟩ := sqL_at hok KX hs
      obtain ⟨as, hr⟩ := Dw.readsAll hok KX ds _ its ha rv
      exact ⟨_, ReadsW.list ho hc hd hr⟩
  | .tuple ds, _, _, x, r => by
    cases x with
    | tup hs ha =>
      cases r
      obtain ⟨its, o, n, rv, ho, hc, hd⟩ := sqT_at hok KX hs
      obtain ⟨as, hr⟩ := Dw.readsAll hok KX ds _ its ha rv
      exact ⟨_, ReadsW.tuple ho hc hd hr⟩
  | .float _, _, _, x, _ => by cases x
  | .dict _, _, _, x, _ => by cases x
  | .bytearray _, _, _, x, _ => by cases x
  | .set _, _, _, x, _ => by cases x
  | .frozenset _, _, _, x, _ => by cases x
  | .obj _ _, _, _, x, _ => by cases x
theorem Dw.readsAll (hok : HOk P w H h) (KX : K.In h) : ∀ (ds : List WData) (vs : List V) (us : List Value), DwAll K H vs ds → Vals vs us → ∃ as, ReadsAllW R cl h us ds as
  | [], _, _, x, r => by
    cases x
    cases r
    exact ⟨_, ReadsAllW.nil⟩
  | d :: ds, _, _, x, r => by
    cases x with
    | cons h1 h2 =>
      cases r with
      | cons r1 r2 =>
        obtain ⟨as, q1⟩ := Dw.reads hok KX d _ _ h1 r1
        obtain ⟨bs, q2⟩ := Dw.readsAll hok KX ds _ _ h2 r2
        exact ⟨_, ReadsAllW.cons q1 q2⟩
end
end
/-! ### the arguments -/
mutual
/-- data that a codec tells -/
def plW : WData → Bool
  | .none => true
  | .bool _ => true
  | .int _ => true
  | .str _ => true
  | .bytes _ => true
  | .list xs => plWs xs
  | .tuple xs => plWs xs
  | _ => false
def plWs : List WData → Bool
  | [] => true
  | x :: r => plW x && plWs r
end
theorem plWs_map {α : Type} {f : α → WData} (h : ∀ a, plW (f a) = true) : ∀ l : List α, plWs (l.map f) = true
  | [] => rfl
  | x :: r => by
    show (plW (f x) && plWs (r.map f)) = true
    rw [h x, plWs_map h r] <;> rfl
theorem pl_enc : ∀ (c : Codec) (a : c.denote), plW (c.enc a) = true
  | .unit, _ => rfl
  | .bool, _ => rfl
  | .int _ _, _ => rfl
  | .nat _ _, _ => rfl
  | .u8, _ => rfl
  | .bytes _ _, _ => rfl
  | .text _ _ _ _, _ => rfl
  | .list _ _ c, a => plWs_map (fun x => pl_enc c x) a
  | .pair c d, a => by
    show (plW (c.enc a.1) && (plW (d.enc a.2) && true)) = true
    rw [pl_enc c a.1, pl_enc d a.2] <;> rfl
  | .triple c d e, a => by
    show (plW (c.enc a.1) && (plW (d.enc a.2.1) && (plW (e.enc a.2.2) && true))) = true
    rw [pl_enc c a.1, pl_enc d a.2.1, pl_enc e a.2.2] <;> rfl
  | .option c, none => rfl
  | .option c, some x => pl_enc c x
theorem pl_encAll : ∀ (cs : List Codec) (a : Codec.denoteAll cs), plWs (Codec.encAll cs a) = true
  | [], _ => rfl
  | c :: cs, a => by
    show (plW (c.enc a.1) && plWs (Codec.encAll cs a.2)) = true
    rw [pl_enc c a.1, pl_encAll cs a.2] <;> rfl
theorem weight_mem : ∀ {xs : List WData} {d : WData}, d ∈ xs → d.weight ≤ WData.weightAll xs
  | [], d, h => absurd h (by simp)
  | x :: r, d, h => by
    show d.weight ≤ x.weight + 1 + WData.weightAll r
    rcases List.mem_cons.mp h with e | m
    · rw [e]
      omega
    · have z := weight_mem m
      omega
def toV : Value → V
  | .none => .non
  | .bool b => .bl b
  | .int i _ => .int i
  | .str x _ => .str x
  | .bytes b _ => .byt b
  | .ref a => .ref a
  | _ => .non
/-- a value of the arguments, its objects among A -/
def OkU (A : List Addr) : Value → Prop
  | .none => True
  | .bool _ => True
  | .int _ _ => True
  | .str _ _ => True
  | .bytes _ _ => True
  | .ref a => a ∈ A
  | _ => False
theorem OkU.mono {A B : List Addr} (h : ∀ a ∈ A, a ∈ B) : ∀ {u : Value}, OkU A u → OkU B u := fun {u} x => by
  cases u with
  | ref a => exact h a x
  | none => trivial
  | bool b => trivial
  | int i t => trivial
  | str s t => trivial
  | bytes b t => trivial
  | _ => exact False.elim x
theorem relV_toV {A : List Addr} {u : Value} (x : OkU A u) : RelV (toV u) u := by
  cases u with
  | ref a => rfl
  | none => rfl
  | bool b => rfl
  | int i t => exact ⟨t, rfl⟩
  | str s t => exact ⟨t, rfl⟩
  | bytes b t => exact ⟨t, rfl⟩
  | _ => exact False.elim x
theorem vals_toV {A : List Addr} : ∀ {vs : List Value}, (∀ u ∈ vs, OkU A u) → Vals (vs.map toV) vs
  | [], _ => .nil
  | u :: r, h => .cons (relV_toV (h u (List.mem_cons_self ..))) (vals_toV fun x hx => h x (List.mem_cons_of_mem _ hx))
/-- an object of the arguments -/
def ArgOb (h : Heap) (A : List Addr) (a : Addr) : Prop := ∃ vs : List Value, vs.length ≤ sizeLine ∧ (∀ u ∈ vs, OkU A u) ∧
  (h.get? a = some { cls := .type "list", data := .seq vs.toArray } ∨ h.get? a = some { cls := .type "tuple", data := .seq vs.toArray })
theorem ArgOb.mono {h : Heap} {A B : List Addr} {a : Addr} (k : ∀ a ∈ A, a ∈ B) (x : ArgOb h A a) : ArgOb h B a := by
  obtain ⟨vs, h1, h2, h3⟩ := x
  exact ⟨vs, h1, fun u hu => (h2 u hu).mono k, h3⟩
theorem wellAll_len {P : Params} {h : Heap} : ∀ {vs : List Value} {ds : List WData}, WellAll P h vs ds → vs.length = ds.length
  | _, _, .nil => rfl
  | _, _, .cons _ b => by
    show _ + 1 = _ + 1
    rw [wellAll_len b]
theorem well_list {P : Params} {h : Heap} {v : Value} {ds : List WData} (x : Well P h v (.list ds)) : ∃ (a : Addr) (vs : List Value), v = .ref a ∧ h.get? a = some { cls := .type "list", data := .seq vs.toArray } ∧ WellAll P h vs ds := by
  cases x with
  | list ho hall => exact ⟨_, _, rfl, ho, hall⟩
theorem well_tuple {P : Params} {h : Heap} {v : Value} {ds : List WData} (x : Well P h v (.tuple ds)) : ∃ (a : Addr) (vs : List Value), v = .ref a ∧ h.get? a = some { cls := .type "tuple", data := .seq vs.toArray } ∧ WellAll P h vs ds := by
  cases x with
  | tuple ho hall => exact ⟨_, _, rfl, ho, hall⟩
theorem well_cons {P : Params} {h : Heap} {us : List Value} {d : WData} {ds : List WData} (x : WellAll P h us (d :: ds)) : ∃ (v : Value) (vs : List Value), us = v :: vs ∧ Well P h v d ∧ WellAll P h vs ds := by
  cases x with
  | cons a b => exact ⟨_, _, rfl, a, b⟩
theorem line_of {n : Nat} (h : n ≤ 1048576) : n ≤ sizeLine := Nat.le_trans h (by decide)
section
variable {P : Params} {h : Heap}
mutual
theorem area_one : ∀ (d : WData) (v : Value), Well P h v d → plW d = true → d.weight ≤ 1048576 → ∃ A : List Addr, OkU A v ∧ ∀ a ∈ A, ArgOb h A a
  | .none, _, x, _, _ => by
    cases x
    exact ⟨[], trivial, fun a m => absurd m (by simp)⟩
  | .bool b, _, x, _, _ => by
    cases x
    exact ⟨[], trivial, fun a m => absurd m (by simp)⟩
  | .int i, _, x, _, _ => by
    cases x
    exact ⟨[], trivial, fun a m => absurd m (by simp)⟩
  | .str s, _, x, _, _ => by
    cases x
    exact ⟨[], trivial, fun a m => absurd m (by simp)⟩
  | .bytes b, _, x, _, _ => by
    cases x
    exact ⟨[], trivial, fun a m => absurd m (by simp)⟩
  | .list ds, _, x, p, z => by
    obtain ⟨a, vs, rfl, ho, hall⟩ := well_list x
    have z2 : WData.weightAll ds ≤ 1048576 := z
    obtain ⟨A, h1, h2⟩ := area_all ds _ hall p fun d hd => Nat.le_trans (weight_mem hd) z2
    have k : ∀ b ∈ A, b ∈ a :: A := fun b hb => List.mem_cons_of_mem _ hb
    refine ⟨a :: A, List.mem_cons_self .., fun b hb => ?_⟩
    rcases List.mem_cons.mp hb with e | m
    · rw [e]
      exact ⟨vs, line_of (by rw [wellAll_len hall]; exact Nat.le_trans (PySem.W.length_le_weightAllW ds) z2), fun u hu => (h1 u hu).mono k, .inl ho⟩
    · exact (h2 b m).mono k
  | .tuple ds, _, x, p, z => by
    obtain ⟨a, vs, rfl, ho, hall⟩ := well_tuple x
    have z2 : WData.weightAll ds ≤ 1048576 := z
    obtain ⟨A, h1, h2⟩ := area_all ds _ hall p fun d hd => Nat.le_trans (weight_mem hd) z2
    have k : ∀ b ∈ A, b ∈ a :: A := fun b hb => List.mem_cons_of_mem _ hb
    refine ⟨a :: A, List.mem_cons_self .., fun b hb => ?_⟩
    rcases List.mem_cons.mp hb with e | m
    · rw [e]
      exact ⟨vs, line_of (by rw [wellAll_len hall]; exact Nat.le_trans (PySem.W.length_le_weightAllW ds) z2), fun u hu => (h1 u hu).mono k, .inr ho⟩
    · exact (h2 b m).mono k
  | .float _, _, _, p, _ => Bool.noConfusion (show false = true from p)
  | .dict _, _, _, p, _ => Bool.noConfusion (show false = true from p)
  | .bytearray _, _, _, p, _ => Bool.noConfusion (show false = true from p)
  | .set _, _, _, p, _ => Bool.noConfusion (show false = true from p)
  | .frozenset _, _, _, p, _ => Bool.noConfusion (show false = true from p)
  | .obj _ _, _, _, p, _ => Bool.noConfusion (show false = true from p)
theorem area_all : ∀ (ds : List WData) (vs : List Value), WellAll P h vs ds → plWs ds = true → (∀ d ∈ ds, d.weight ≤ 1048576) → ∃ A : List Addr, (∀ u ∈ vs, OkU A u) ∧ ∀ a ∈ A, ArgOb h A a
  | [], _, x, _, _ => by
    cases x
    exact ⟨[], fun u m => absurd m (by simp), fun a m => absurd m (by simp)⟩
  | d :: ds, _, x, p, z => by
    obtain ⟨v, vs, rfl, x1, x2⟩ := well_cons x
    have q : plW d = true ∧ plWs ds = true := Bool.and_eq_true_iff.mp p
    obtain ⟨A, a1, a2⟩ := area_one d v x1 q.1 (z d (List.mem_cons_self ..))
    obtain ⟨B, b1, b2⟩ := area_all ds vs x2 q.2 fun e he => z e (List.mem_cons_of_mem _ he)
    have kA : ∀ b ∈ A, b ∈ A ++ B := fun b hb => List.mem_append.mpr (.inl hb)
    have kB : ∀ b ∈ B, b ∈ A ++ B := fun b hb => List.mem_append.mpr (.inr hb)
    refine ⟨A ++ B, fun u hu => ?_, fun b hb => ?_⟩
    · rcases List.mem_cons.mp hu with e | m
      · rw [e]
        exact a1.mono kA
      · exact (b1 u m).mono kB
    · rcases List.mem_append.mp hb with m | m
      · exact (a2 b m).mono kA
      · exact (b2 b m).mono kB
end
end
/-- what is tracked of an argument's object -/
def hoOf (o : Obj) : Option HO := match o.data with
  | .seq vs _ => if (o.cls == Value.type "list") = true then some (.frz o (.lst (vs.toList.map toV))) else some (.frz o (.tup (vs.toList.map toV)))
  | _ => none
def argH (K : PySem.W.Frag) (h : Heap) (A : List Addr) : Hp := fun b => if b ∈ A then (if (K.lookup b).isNone = true then (h.get? b).bind hoOf else none) else none
/-- nothing is tracked but what is known to the object -/
def OnlyF (H : Hp) : Prop := ∀ b, H b = none ∨ ∃ o u, H b = some (.frz o u)
theorem hoOf_lst (vs : List Value) : hoOf { cls := .type "list", data := .seq vs.toArray } = some (.frz { cls := .type "list", data := .seq vs.toArray } (.lst (vs.map toV))) := by
  show (if (Value.type "list" == Value.type "list") = true then some (HO.frz { cls := .type "list", data := .seq vs.toArray } (.lst (vs.toArray.toList.map toV))) else some (HO.frz { cls := .type "list", data := .seq vs.toArray } (.tup (vs.toArray.toList.map toV)))) = _
  rw [if_pos (beq_self_eq_true _)]
theorem hoOf_tup (vs : List Value) : hoOf { cls := .type "tuple", data := .seq vs.toArray } = some (.frz { cls := .type "tuple", data := .seq vs.toArray } (.tup (vs.map toV))) := by
  show (if (Value.type "tuple" == Value.type "list") = true then some (HO.frz { cls := .type "tuple", data := .seq vs.toArray } (.lst (vs.toArray.toList.map toV))) else some (HO.frz { cls := .type "tuple", data := .seq vs.toArray } (.tup (vs.toArray.toList.map toV)))) = _
  rw [if_neg (by decide)]
section
variable {P : Program} {w : World} {K : PySem.W.Frag} {h : Heap} {A : List Addr}
theorem argH_at {b : Addr} {o : Obj} (hb : b ∈ A) (hk : K.lookup b = none) (e : h.get? b = some o) : argH K h A b = hoOf o := by
  unfold argH
  rw [if_pos hb, hk, if_pos (show (none : Option Obj).isNone = true from rfl), e] <;> rfl
theorem of_argH {b : Addr} {u : HO} (q : argH K h A b = some u) : b ∈ A ∧ K.lookup b = none := by
  unfold argH at q
  by_cases hb : b ∈ A
  · rw [if_pos hb] at q
    cases hk : K.lookup b with
    | none => exact ⟨hb, rfl⟩
    | some o =>
      rw [hk, if_neg (by simp)] at q
      cases q
  · rw [if_neg hb] at q
    cases q
/-- what stands tracked -/
theorem argH_is (ar : ∀ a ∈ A, ArgOb h A a) {b : Addr} {u : HO} (q : argH K h A b = some u) : K.lookup b = none ∧ ∃ vs : List Value, vs.length ≤ sizeLine ∧ (∀ u ∈ vs, OkU A u) ∧
    ((h.get? b = some { cls := .type "list", data := .seq vs.toArray } ∧ u = .frz { cls := .type "list", data := .seq vs.toArray } (.lst (vs.map toV))) ∨
     (h.get? b = some { cls := .type "tuple", data := .seq vs.toArray } ∧ u = .frz { cls := .type "tuple", data := .seq vs.toArray } (.tup (vs.map toV)))) := by
  obtain ⟨hb, hk⟩ := of_argH q
  obtain ⟨vs, h1, h2, h3⟩ := ar b hb
  refine ⟨hk, vs, h1, h2, ?_⟩
  rcases h3 with e | e
  · rw [argH_at hb hk e, hoOf_lst] at q
    exact .inl ⟨e, (Option.some.inj q).symm⟩
  · rw [argH_at hb hk e, hoOf_tup] at q
    exact .inr ⟨e, (Option.some.inj q).symm⟩
theorem argH_only (ar : ∀ a ∈ A, ArgOb h A a) : OnlyF (argH K h A) := fun b => by
  cases q : argH K h A b with
  | none => exact .inl rfl
  | some u =>
    obtain ⟨_, vs, _, _, ⟨_, e⟩ | ⟨_, e⟩⟩ := argH_is ar q
    · exact .inr ⟨_, _, by rw [e]⟩
    · exact .inr ⟨_, _, by rw [e]⟩
theorem argH_ok (ar : ∀ a ∈ A, ArgOb h A a) : HOk P w (argH K h A) h := fun b u q => by
  obtain ⟨_, vs, h1, h2, ⟨e, rfl⟩ | ⟨e, rfl⟩⟩ := argH_is ar q
  · exact ⟨e, by rw [List.length_map]; exact h1, vs, _, vals_toV h2, e⟩
  · exact ⟨e, by rw [List.length_map]; exact h1, vs, vals_toV h2, _, e, rfl, _, rfl⟩
theorem seq_inj {c c' : Value} {vs us : List Value} (e : (some { cls := c, data := .seq vs.toArray } : Option Obj) = some { cls := c', data := .seq us.toArray }) : c = c' ∧ vs = us := by
  have e1 := Option.some.inj e
  have e2 : c = c' := congrArg Obj.cls e1
  have e3 : Data.seq vs.toArray = Data.seq us.toArray := congrArg Obj.data e1
  injection e3 with e4
  refine ⟨e2, ?_⟩
  have e5 := congrArg Array.toList e4
  simpa using e5
/-- a list argument -/
theorem argL (KX : K.In h) (ar : ∀ a ∈ A, ArgOb h A a) {a : Addr} {vs : List Value} (ha : a ∈ A) (e : h.get? a = some { cls := .type "list", data := .seq vs.toArray }) : (∀ u ∈ vs, OkU A u) ∧ SqL K (argH K h A) a (vs.map toV) := by
  obtain ⟨us, h1, h2, h3⟩ := ar a ha
  have hu : us = vs := by
    rcases h3 with q | q
    · rw [e] at q
      exact (seq_inj q).2.symm
    · rw [e] at q
      exact absurd (Value.type.inj (seq_inj q).1) (by decide)
  subst hu
  refine ⟨h2, ?_⟩
  cases hk : K.lookup a with
  | none => exact .inl (.inr ⟨_, by rw [argH_at ha hk e, hoOf_lst]⟩)
  | some o =>
    have e2 := KX a o hk
    rw [e] at e2
    obtain rfl := Option.some.inj e2
    exact .inr ⟨_, us.toArray, _, hk, rfl, rfl, rfl, by rw [List.size_toArray]; exact h1, by simpa using vals_toV h2⟩
theorem argT (KX : K.In h) (ar : ∀ a ∈ A, ArgOb h A a) {a : Addr} {vs : List Value} (ha : a ∈ A) (e : h.get? a = some { cls := .type "tuple", data := .seq vs.toArray }) : (∀ u ∈ vs, OkU A u) ∧ SqT K (argH K h A) a (vs.map toV) := by
  obtain ⟨us, h1, h2, h3⟩ := ar a ha
  have hu : us = vs := by
    rcases h3 with q | q
    · rw [e] at q
      exact absurd (Value.type.inj (seq_inj q).1) (by decide)
    · rw [e] at q
      exact (seq_inj q).2.symm
  subst hu
  refine ⟨h2, ?_⟩
  cases hk : K.lookup a with
  | none => exact .inl (.inr ⟨_, by rw [argH_at ha hk e, hoOf_tup]⟩)
  | some o =>
    have e2 := KX a o hk
    rw [e] at e2
    obtain rfl := Option.some.inj e2
    exact .inr ⟨_, us.toArray, _, hk, rfl, rfl, by rw [List.size_toArray]; exact h1, by simpa using vals_toV h2⟩
mutual
theorem dw_one {Pm : Params} (KX : K.In h) (ar : ∀ a ∈ A, ArgOb h A a) : ∀ (d : WData) (v : Value), Well Pm h v d → plW d = true → OkU A v → Dw K (argH K h A) (toV v) d
  | .none, _, x, _, _ => by
    cases x
    exact .non
  | .bool b, _, x, _, _ => by
    cases x
    exact .bl b
  | .int i, _, x, _, _ => by
    cases x
    exact .int i
  | .str s, _, x, _, _ => by
    cases x
    exact .str s
  | .bytes b, _, x, _, _ => by
    cases x
    have z := Dw.byt (K := K) (H := argH K h A) b.toArray
    exact z
  | .list ds, _, x, p, hu => by
    obtain ⟨a, vs, rfl, ho, hall⟩ := well_list x
    obtain ⟨h2, hs⟩ := argL KX ar hu ho
    exact .lst hs (dw_all KX ar ds _ hall p h2)
  | .tuple ds, _, x, p, hu => by
    obtain ⟨a, vs, rfl, ho, hall⟩ := well_tuple x
    obtain ⟨h2, hs⟩ := argT KX ar hu ho
    exact .tup hs (dw_all KX ar ds _ hall p h2)
  | .float _, _, _, p, _ => Bool.noConfusion (show false = true from p)
  | .dict _, _, _, p, _ => Bool.noConfusion (show false = true from p)
  | .bytearray _, _, _, p, _ => Bool.noConfusion (show false = true from p)
  | .set _, _, _, p, _ => Bool.noConfusion (show false = true from p)
  | .frozenset _, _, _, p, _ => Bool.noConfusion (show false = true from p)
  | .obj _ _, _, _, p, _ => Bool.noConfusion (show false = true from p)
theorem dw_all {Pm : Params} (KX : K.In h) (ar : ∀ a ∈ A, ArgOb h A a) : ∀ (ds : List WData) (vs : List Value), WellAll Pm h vs ds → plWs ds = true → (∀ u ∈ vs, OkU A u) → DwAll K (argH K h A) (vs.map toV) ds
  | [], _, x, _, _ => by
    cases x
    exact .nil
  | d :: ds, _, x, p, hu => by
    obtain ⟨v, vs, rfl, x1, x2⟩ := well_cons x
    have q : plW d = true ∧ plWs ds = true := Bool.and_eq_true_iff.mp p
    exact .cons (dw_one KX ar d v x1 q.1 (hu _ (List.mem_cons_self ..))) (dw_all KX ar ds vs x2 q.2 fun u m => hu u (List.mem_cons_of_mem _ m))
end
end
/-! ### the call -/
theorem spec_call {P : Program} {w : World} {K : PySem.W.Frag} {mg mb : Str → Option Value} {CX : CXT} {k : Nat} {fa : Addr} {fd : FuncData} {ps : List Str} {sp : Sp} {s₁ : Shared} {vals : List Value} {ds : List WData} {R : PySem.W.WRecords} {cl : Str → Option Addr} {d0 : WData}
    (KX : K.In s₁.heap) (hns : s₁.heap.Ns mainGlobals mg) (hb : s₁.heap.Ns builtinsNs mb) (hbb : ∀ x : Str, x ≠ "__name__" → mb x = bootBuiltins x) (hlim : s₁.heap.NoLimit) (hg : s₁.gens = #[])
    (hwl : WellAll w.params s₁.heap vals ds) (hpl : plWs ds = true) (hwt : ∀ d ∈ ds, d.weight ≤ 1048576) (hr : Room k callerA)
    (F : ∀ base : Heap, K.In base → base.Ns mainGlobals mg → FnOk P w K mg base CX k fa fd ps sp) (hbind : ∀ (s : Shared) (us : List Value), us.length = ps.length → BindsTo s fd ⟨us, []⟩ (ps.zip us)) (hlen : ds.length = ps.length)
    (hsp : ∀ (H : Hp) (xs : List V), OnlyF H → DwAll K H xs ds → sp xs H (fun v H' => Dw K H' v d0) fun _ _ _ => False)
    (hCX : ∀ H e s', CX [] H s₁ (fun _ _ _ => False) e s' → False) :
    codeAny (model P w) callerA (.call (.ref fa) ⟨vals, []⟩) (fun r s' => ∃ u as, r = .ok (.ret u) ∧ ReadsW R cl s'.heap u d0 as ∧ OldK s₁.heap s'.heap ∧ s'.os = s₁.os ∧ AllBare s'.gens) s₁ := by
  obtain ⟨A, ho, ar⟩ := area_all ds vals hwl hpl hwt
  have hO : OnlyF (argH K s₁.heap A) := argH_only ar
  have hok : HOk P w (argH K s₁.heap A) s₁.heap := argH_ok ar
  have hS := dw_all KX ar ds vals hwl hpl ho
  have hV := vals_toV ho
  have hK : ∀ b u, argH K s₁.heap A b = some u → K.lookup b = none := fun b u q => (argH_is ar q).1
  have noA : ∀ {b : Addr} {o : Obj} {es : Array DictEntry} {ep : Nat}, s₁.heap.get? b = some o → o.data = .dict es ep → argH K s₁.heap A b = none := fun {b o es ep} e d => by
    cases q : argH K s₁.heap A b with
    | none => rfl
    | some u =>
      obtain ⟨_, vs, _, _, ⟨e2, _⟩ | ⟨e2, _⟩⟩ := argH_is ar q
      · rw [e2] at e
        cases e
        have d' : Data.seq vs.toArray _ = Data.dict es ep := d
        cases d'
      · rw [e2] at e
        cases e
        have d' : Data.seq vs.toArray _ = Data.dict es ep := d
        cases d'
  generalize argH K s₁.heap A = H at hO hok hS hK noA
  have base_of : ∀ {b : Addr} {o : Obj}, s₁.heap.get? b = some o → H b = none → (hidT s₁.heap H).get? b = some o := fun e n => hidT_get e n
  have nsK : ∀ {b : Addr} {m : Str → Option Value}, s₁.heap.Ns b m → (hidT s₁.heap H).Ns b m := fun {b m} ⟨o, es, ep, e, d, r⟩ => ⟨o, es, ep, base_of e (noA e d), d, r⟩
  have nK : ∀ b o, K.lookup b = some o → H b = none := fun b o e => by
    cases q : H b with
    | none => rfl
    | some u =>
      rw [hK b u q] at e
      cases e
  have hKb : K.In (hidT s₁.heap H) := fun b o e => base_of (KX b o e) (nK b o e)
  have hM : Mod K mg (hidT s₁.heap H) := ⟨hKb, nsK hns, ⟨mb, nsK hb, hbb⟩, let ⟨mc, h1, h2⟩ := hlim; ⟨mc, nsK h1, h2⟩⟩
  have e0 : Env0 P w K mg (hidT s₁.heap H) callerA [] s₁ H := ⟨rfl, hM, fun b o e => of_hidT e, Nat.le_of_eq (hidT_size _ _), trivial, fun b hb => absurd (show b ∈ ([] : List Addr) from hb) (by simp), hok, .of_eq hg⟩
  have hl : vals.length = ps.length := by rw [wellAll_len hwl]; exact hlen
  refine codeAny_mono ((F _ hKb (nsK hns)).run callerA [] s₁ H ⟨vals, []⟩ vals (vals.map toV) _ _ hr e0 (hbind s₁ vals hl) hV (hsp H _ hO hS)) fun r s' x => ?_
  cases r with
  | error e => exact (hCX H e s' x).elim
  | ok fl =>
    cases fl with
    | next => exact False.elim x
    | brk => exact False.elim x
    | cont => exact False.elim x
    | ret u =>
      obtain ⟨v, H', os, bare, un, hok', r', q⟩ := x
      have kept : ∀ b o, s₁.heap.get? b = some o → s'.heap.get? b = some o := fun b o e => by
        cases q2 : H b with
        | none => exact un.keep b o e q2 (by intro z; exact absurd (show b ∈ ([] : List Addr) from z) (by simp)) (by simp)
        | some u2 =>
          rcases hO b with z | ⟨ob, u3, z⟩
          · rw [q2] at z
            cases z
          · have z2 := un.frzs b ob _ z
            obtain ⟨e1, _⟩ := hok b _ z
            obtain ⟨e2, _⟩ := hok' b _ z2
            rw [e] at e1
            cases e1
            exact e2
      have KX' : K.In s'.heap := fun b o e => kept b o (KX b o e)
      obtain ⟨as, hrd⟩ := Dw.reads (R := R) (cl := cl) hok' KX' d0 v u q r'
      exact ⟨u, as, rfl, hrd, OldK.of_keep kept, os, bare⟩
/-! ### the row -/
theorem layable_weight {ds : List WData} (h : WData.layableAll ds = true) : ∀ d ∈ ds, d.weight ≤ 1048576 := fun d hd =>
  (PySem.W.layableW_iff.mp (List.all_eq_true.mp h d hd)).2.2
theorem encAll_len : ∀ (cs : List Codec) (a : Codec.denoteAll cs), (Codec.encAll cs a).length = cs.length
  | [], _ => rfl
  | c :: cs, a => by
    show (Codec.encAll cs a.2).length + 1 = cs.length + 1
    rw [encAll_len cs a.2]
/-- the goal that k_headS leaves (case hc), from the promise of the row's def: whatever the arguments that the codecs let and the row asks for, the def gives what stands for enc (f ..) -/
theorem walk_spec {r : OpenSpec} {k : Nat} {q : Program} {loose : List Str} {XP : (Str → Option Value) → Heap → Prop} {YP : World → Heap → Prop} {d : DefRec} {K : Params → PySem.W.Frag} {CX : World → CXT} {ps : List Str} {sp : World → Sp}
    (hwell : r.wellSaid = true) (hdf : d.params.defaults = []) (hlen : r.args.length = ps.length) (hr : Room k callerA)
    (hY : ∀ (w : World) (h : Heap), YP w h → (K w.params).In h)
    (F : ∀ (w : World) (mg : Str → Option Value) (fa : Addr) (h : Heap), YP w h → (K w.params).In h → h.Ns mainGlobals mg → mg d.name = some (.ref fa) →
      ∃ fd : FuncData, (∀ (s : Shared) (us : List Value), us.length = ps.length → BindsTo s fd ⟨us, []⟩ (ps.zip us)) ∧
        ∀ base : Heap, (K w.params).In base → base.Ns mainGlobals mg → FnOk r.prog w (K w.params) mg base (CX w) k fa fd ps (sp w))
    (hsp : ∀ (w : World) (H : Hp) (xs : List V) (a : Codec.denoteAll r.args), OnlyF H → Codec.withinAll r.args a = true → Codec.app r.args r.asked a = true → DwAll (K w.params) H xs (Codec.encAll r.args a) →
      sp w xs H (fun v H' => Dw (K w.params) H' v (r.ret.enc (Codec.app r.args r.f a))) fun _ _ _ => False)
    (hCX : ∀ (w : World) (H : Hp) (s : Shared) (e : Value) (s' : Shared), CX w [] H s (fun _ _ _ => False) e s' → False) :
    PySem.W.WalkOS q loose XP YP r d [] (fun f vs => PySem.call f vs) := by
  intro w s_0 s₁ mg mb G Y fa o pm cd doc dV kV ho hd hcd hD hmg hg args vals as hpre hlay hrd hwl hlo
  obtain ⟨a, e1, e2⟩ := PySem.W.os_pre_some hpre
  obtain ⟨e3, hwi⟩ := Codec.encAll_of_decAll r.args args a e1
  subst e3
  have KX := hY w _ Y
  obtain ⟨fd, hb, hF⟩ := F w mg fa _ Y KX G.T.g hmg
  refine PySem.W.enter_call (codeAny_mono (spec_call (R := []) (cl := classAt s_0.heap) (d0 := r.ret.enc (Codec.app r.args r.f a)) KX G.T.g G.T.b G.T.builtins G.T.nolimit hg hwl (pl_encAll _ _) (layable_weight hlay) hr hF hb (by rw [encAll_len]; exact hlen)
    (fun H xs hO hS => hsp w H xs a hO hwi e2 hS) fun H e s' => hCX w H s₁ e s') fun r' s' hq => ?_)
  obtain ⟨u, as', rfl, h1, h2, h3, h4⟩ := hq
  exact ⟨.inl ⟨u, _, as', rfl, fun _ => rfl, h1, (OpenSpec.post_iff hwell hwi _ _).mpr rfl, fun z => Bool.noConfusion (show false = true from z)⟩, h2, h3, h4⟩
/-- the same where the promise hangs on the written part alone -/
theorem walk_specK {r : OpenSpec} {k : Nat} {q : Program} {loose : List Str} {XP : (Str → Option Value) → Heap → Prop} {YP : World → Heap → Prop} {d : DefRec} {K : Params → PySem.W.Frag} {CX : CXT} {ps : List Str} {sp : PySem.W.Frag → Sp}
    (hwell : r.wellSaid = true) (hdf : d.params.defaults = []) (hlen : r.args.length = ps.length) (hr : Room k callerA)
    (hY : ∀ (w : World) (h : Heap), YP w h → (K w.params).In h)
    (F : ∀ (w : World) (mg : Str → Option Value) (fa : Addr) (h : Heap), YP w h → (K w.params).In h → h.Ns mainGlobals mg → mg d.name = some (.ref fa) →
      ∃ fd : FuncData, (∀ (s : Shared) (us : List Value), us.length = ps.length → BindsTo s fd ⟨us, []⟩ (ps.zip us)) ∧
        ∀ base : Heap, (K w.params).In base → base.Ns mainGlobals mg → FnOk r.prog w (K w.params) mg base CX k fa fd ps (sp (K w.params)))
    (hsp : ∀ (K : PySem.W.Frag) (H : Hp) (xs : List V) (a : Codec.denoteAll r.args), OnlyF H → Codec.withinAll r.args a = true → Codec.app r.args r.asked a = true → DwAll K H xs (Codec.encAll r.args a) →
      sp K xs H (fun v H' => Dw K H' v (r.ret.enc (Codec.app r.args r.f a))) fun _ _ _ => False)
    (hCX : ∀ (H : Hp) (s : Shared) (e : Value) (s' : Shared), CX [] H s (fun _ _ _ => False) e s' → False) :
    PySem.W.WalkOS q loose XP YP r d [] (fun f vs => PySem.call f vs) :=
  walk_spec (K := K) (CX := fun _ => CX) (sp := fun w => sp (K w.params)) hwell hdf hlen hr hY F (fun w H xs a h1 h2 h3 h4 => hsp (K w.params) H xs a h1 h2 h3 h4) fun _ H s e s' => hCX H s e s'
end L2
-- rests on (row put in by the clerk, for the bench that shows a file only what it spells): KE.SpHead KE.OsShapes
end


set_option Elab.async false
set_option linter.all false
/-! The mathematics of the specification, plain Lean. -/
namespace Ff
open Kp243

/-! ### the least of a list -/
def mstep (m : Option Nat) (v : Nat) : Option Nat := match m with
  | none => some v
  | some x => some (min x v)
def minOr (l : List Nat) : Nat := (l.foldl mstep none).getD 0
theorem mfold_some : ∀ (l : List Nat) (x : Nat), ∃ m, l.foldl mstep (some x) = some m ∧ m ≤ x ∧ (∀ y ∈ l, m ≤ y) ∧ (m = x ∨ m ∈ l)
  | [], x => ⟨x, rfl, Nat.le_refl _, by simp, .inl rfl⟩
  | v :: l, x => by
    obtain ⟨m, h1, h2, h3, h4⟩ := mfold_some l (min x v)
    refine ⟨m, h1, by omega, fun y hy => ?_, ?_⟩
    · rcases List.mem_cons.mp hy with e | h
      · subst e; omega
      · exact h3 y h
    · rcases h4 with e | h
      · by_cases q : x ≤ v
        · exact .inl (by omega)
        · exact .inr (List.mem_cons.mpr (.inl (by omega)))
      · exact .inr (List.mem_cons_of_mem _ h)
theorem minOr_is {l : List Nat} {m : Nat} (h : m ∈ l) (hm : ∀ y ∈ l, m ≤ y) : minOr l = m := by
  cases l with
  | nil => cases h
  | cons v l =>
    obtain ⟨k, h1, h2, h3, h4⟩ := mfold_some l v
    have e : minOr (v :: l) = k := by
      show ((l.foldl mstep (some v))).getD 0 = k
      rw [h1]; rfl
    rw [e]
    have a : m ≤ k := by
      rcases h4 with e | q
      · rw [e]; exact hm v (List.mem_cons_self ..)
      · exact hm k (List.mem_cons_of_mem _ q)
    have b : k ≤ m := by
      rcases List.mem_cons.mp h with e | q
      · rw [e]; exact h2
      · exact h3 m q
    omega
theorem minOr_mem {l : List Nat} (h : l ≠ []) : minOr l ∈ l ∧ ∀ y ∈ l, minOr l ≤ y := by
  cases l with
  | nil => exact absurd rfl h
  | cons v l =>
    obtain ⟨k, h1, h2, h3, h4⟩ := mfold_some l v
    have e : minOr (v :: l) = k := by
      show ((l.foldl mstep (some v))).getD 0 = k
      rw [h1]; rfl
    rw [e]
    refine ⟨?_, fun y hy => ?_⟩
    · rcases h4 with e | q
      · rw [e]; exact List.mem_cons_self ..
      · exact List.mem_cons_of_mem _ q
    · rcases List.mem_cons.mp hy with e | q
      · rw [e]; exact h2
      · exact h3 y q

/-! ### the cheapest way, by prices alone -/
def WF (pr : List Nat) : Nat → Nat → Nat → Nat
  | 0, _, _ => 0
  | n + 1, a, b => minOr ((List.range (b - a - 1)).map fun k => pr.getD (a + k) 0 + max (WF pr n a (a + k + 1)) (WF pr n (a + k + 1) b))
def prices (c : Cable) : List Nat := c.sections.map fun s => s.opens
theorem at_opens (c : Cable) (i : Nat) : (at_ c i).opens = (prices c).getD i 0 := by
  unfold at_ prices
  rw [List.getD_eq_getElem?_getD, List.getD_eq_getElem?_getD, List.getElem?_map]
  cases c.sections[i]? <;> rfl
theorem worst_WF (c : Cable) : ∀ n a b, worst c n a b = WF (prices c) n a b
  | 0, _, _ => rfl
  | n + 1, a, b => by
    have key : worst c (n + 1) a b = if b ≤ a + 1 then 0 else minOr ((List.range (b - a - 1)).map fun k => (at_ c (a + k)).opens + max (worst c n a (a + k + 1)) (worst c n (a + k + 1) b)) := by
      show (if b ≤ a + 1 then 0 else _) = _
      by_cases h : b ≤ a + 1
      · rw [if_pos h, if_pos h]
      · rw [if_neg h, if_neg h]
        unfold minOr
        rw [List.foldl_map]
        rfl
    rw [key]
    show _ = minOr ((List.range (b - a - 1)).map fun k => (prices c).getD (a + k) 0 + max (WF (prices c) n a (a + k + 1)) (WF (prices c) n (a + k + 1) b))
    have e : ((List.range (b - a - 1)).map fun k => (at_ c (a + k)).opens + max (worst c n a (a + k + 1)) (worst c n (a + k + 1) b)) = ((List.range (b - a - 1)).map fun k => (prices c).getD (a + k) 0 + max (WF (prices c) n a (a + k + 1)) (WF (prices c) n (a + k + 1) b)) := by
      refine List.map_congr_left fun k _ => ?_
      rw [at_opens, worst_WF c n, worst_WF c n]
    by_cases h : b ≤ a + 1
    · rw [if_pos h]
      have z : b - a - 1 = 0 := by omega
      rw [z]; rfl
    · rw [if_neg h, e]
theorem WF_fuel (pr : List Nat) : ∀ n m a b, b ≤ a + n + 1 → b ≤ a + m + 1 → WF pr n a b = WF pr m a b
  | 0, 0, _, _, _, _ => rfl
  | 0, m + 1, a, b, h1, _ => by
    have z : b - a - 1 = 0 := by omega
    show 0 = minOr _
    rw [z]; rfl
  | n + 1, 0, a, b, _, h2 => by
    have z : b - a - 1 = 0 := by omega
    show minOr _ = 0
    rw [z]; rfl
  | n + 1, m + 1, a, b, h1, h2 => by
    show minOr _ = minOr _
    refine congrArg minOr (List.map_congr_left fun k hk => ?_)
    have hk' := List.mem_range.mp hk
    rw [WF_fuel pr n m a (a + k + 1) (by omega) (by omega), WF_fuel pr n m (a + k + 1) b (by omega) (by omega)]
/-- what the best way costs at the worst, from a to b (that not) -/
def Wst (pr : List Nat) (a b : Nat) : Nat := WF pr (b - a) a b
/-- what each choice of the first opening costs -/
def costsW (pr : List Nat) (a b : Nat) : List Nat := (List.range (b - a - 1)).map fun k => pr.getD (a + k) 0 + max (Wst pr a (a + k + 1)) (Wst pr (a + k + 1) b)
theorem WF_Wst (pr : List Nat) (n a b : Nat) (h : b ≤ a + n + 1) : WF pr n a b = Wst pr a b := WF_fuel pr n (b - a) a b h (by omega)
theorem Wst_min (pr : List Nat) (a b : Nat) : Wst pr a b = minOr (costsW pr a b) := by
  rw [← WF_Wst pr (b - a + 1) a b (by omega)]
  show minOr _ = minOr _
  refine congrArg minOr (List.map_congr_left fun k hk => ?_)
  have hk' := List.mem_range.mp hk
  rw [WF_Wst pr (b - a) a (a + k + 1) (by omega), WF_Wst pr (b - a) (a + k + 1) b (by omega)]
theorem costsW_len (pr : List Nat) (a b : Nat) : (costsW pr a b).length = b - a - 1 := by
  unfold costsW; rw [List.length_map, List.length_range]
theorem costsW_at (pr : List Nat) (a b k : Nat) (h : k < b - a - 1) : (costsW pr a b)[k]? = some (pr.getD (a + k) 0 + max (Wst pr a (a + k + 1)) (Wst pr (a + k + 1) b)) := by
  unfold costsW
  rw [List.getElem?_map, List.getElem?_range h]; rfl
theorem worst_Wst (c : Cable) (a b : Nat) (h : b ≤ a + 11) : worst c SECTIONS a b = Wst (prices c) a b := by
  rw [worst_WF]; exact WF_Wst _ 10 a b h
theorem least_Wst (c : Cable) (h : c.to ≤ c.from_ + 11) : least c = Wst (prices c) c.from_ c.to := worst_Wst c _ _ h
theorem cost_Wst (c : Cable) (i : Nat) (h1 : i ≤ c.from_ + 10) (h2 : c.to ≤ i + 12) : cost c i = (prices c).getD i 0 + max (Wst (prices c) c.from_ (i + 1)) (Wst (prices c) (i + 1) c.to) := by
  unfold cost
  rw [at_opens, worst_Wst c _ _ (by omega), worst_Wst c _ _ (by omega)]
theorem cost_at (c : Cable) (k : Nat) (h : c.to ≤ c.from_ + 11) (hk : k < c.to - c.from_ - 1) : (costsW (prices c) c.from_ c.to)[k]? = some (cost c (c.from_ + k)) := by
  rw [costsW_at _ _ _ _ hk, cost_Wst c _ (by omega) (by omega)]
theorem find_map_range {α : Type} (f : Nat → α) (p : α → Bool) : ∀ n, ((List.range n).map f).find? p = ((List.range n).find? fun k => p (f k)).map f := by
  intro n
  rw [List.find?_map]; rfl
theorem first_some (c : Cable) (k : Nat) (h : c.to ≤ c.from_ + 11) (hk : k < c.to - c.from_ - 1) (e : cost c (c.from_ + k) = least c) (hno : ∀ j, j < k → cost c (c.from_ + j) ≠ least c) : first c = some (c.from_ + k) := by
  unfold first choices
  simp only
  rw [find_map_range]
  have q : (List.range (c.to - c.from_ - 1)).find? (fun j => cost c (c.from_ + j) == least c) = some k := by
    rw [List.find?_range_eq_some]
    refine ⟨by simp [e], List.mem_range.mpr hk, fun j hj => ?_⟩
    simp [hno j hj]
  rw [q]; rfl
theorem first_none (c : Cable) (h : c.to ≤ c.from_ + 1) : first c = none := by
  unfold first choices
  have z : c.to - c.from_ - 1 = 0 := by omega
  rw [z]; rfl
theorem choices_mem (c : Cable) (i : Nat) : (choices c).contains i = true ↔ c.from_ ≤ i ∧ i + 1 < c.to := by
  unfold choices
  rw [List.contains_iff_mem, List.mem_map]
  constructor
  · rintro ⟨k, hk, e⟩
    have := List.mem_range.mp hk
    omega
  · rintro ⟨h1, h2⟩
    exact ⟨i - c.from_, List.mem_range.mpr (by omega), by omega⟩

/-! ### the alike cable -/
theorem prices_alike (c : Cable) : prices (alike c) = List.replicate (size c) 1 := by
  unfold prices alike size
  simp only [List.map_map]
  induction c.sections with
  | nil => rfl
  | cons s l ih =>
    rw [List.map_cons, List.length_cons, List.replicate_succ, ih]; rfl

/-! ### what lies ahead -/
theorem sumOf_acc : ∀ (l : List Nat) (a : Nat), l.foldl (fun (a x : Nat) => a + x) a = a + l.sum
  | [], a => rfl
  | x :: l, a => by
    rw [List.foldl_cons, sumOf_acc l (a + x), List.sum_cons]; omega
theorem sumOf_sum (l : List Nat) : sumOf l = l.sum := by
  unfold sumOf; rw [sumOf_acc]; omega
def res (s : Section) : Nat := s.metres * s.each
def ress (c : Cable) : List Nat := c.sections.map res
theorem ahead_sum (c : Cable) (i : Nat) : ahead c i = ((ress c).take i).sum := by
  unfold ahead ress
  rw [sumOf_sum, List.map_take]; rfl
theorem ofSection_at (c : Cable) (i : Nat) : ofSection c i = (ress c).getD i 0 := by
  unfold ofSection at_ ress
  rw [List.getD_eq_getElem?_getD, List.getD_eq_getElem?_getD, List.getElem?_map]
  cases c.sections[i]? <;> rfl
theorem sum_take_succ : ∀ (l : List Nat) (i : Nat), (l.take (i + 1)).sum = (l.take i).sum + l.getD i 0
  | [], i => by simp
  | a :: l, 0 => by simp
  | a :: l, i + 1 => by
    rw [List.take_succ_cons, List.take_succ_cons, List.sum_cons, List.sum_cons, sum_take_succ l i, List.getD_cons_succ]; omega
theorem ahead_succ (c : Cable) (i : Nat) : ahead c (i + 1) = ahead c i + ofSection c i := by
  rw [ahead_sum, ahead_sum, ofSection_at, sum_take_succ]
theorem ahead_mono (c : Cable) {i j : Nat} (h : i ≤ j) : ahead c i ≤ ahead c j := by
  induction j with
  | zero => have : i = 0 := by omega
            subst this; exact Nat.le_refl _
  | succ j ih =>
    by_cases e : i = j + 1
    · subst e; exact Nat.le_refl _
    · have := ih (by omega)
      rw [ahead_succ]; omega
theorem ress_len (c : Cable) : (ress c).length = size c := by unfold ress size; rw [List.length_map]
theorem total_sum (c : Cable) : total c = (ress c).sum := by
  unfold total
  rw [ahead_sum, ← ress_len, List.take_length]
theorem behind_sum (c : Cable) (i : Nat) : ((ress c).drop (i + 1)).sum = total c - ahead c (i + 1) := by
  have h : ((ress c).take (i + 1)).sum + ((ress c).drop (i + 1)).sum = (ress c).sum := by rw [← List.sum_append, List.take_append_drop]
  rw [total_sum, ahead_sum]; omega
theorem ahead_total (c : Cable) (i : Nat) : ahead c i ≤ total c := by
  have h : ((ress c).take i).sum + ((ress c).drop i).sum = (ress c).sum := by rw [← List.sum_append, List.take_append_drop]
  rw [total_sum, ahead_sum]; omega
/-- the two measurements, as the program asks them -/
theorem mayA_eq (c : Cable) (lo hi i : Nat) : mayA c lo hi i = (decide (ahead c i ≤ hi) && decide (lo ≤ ahead c i + ofSection c i)) := by
  unfold mayA; rw [ahead_succ]
theorem mayB_eq (c : Cable) (lo hi i : Nat) : mayB c lo hi i = (decide (((ress c).drop (i + 1)).sum ≤ hi) && decide (lo ≤ ((ress c).drop (i + 1)).sum + ofSection c i)) := by
  unfold mayB
  have h1 := ahead_total c (i + 1)
  have h2 := ahead_succ c i
  rw [behind_sum]
  have e : total c - ahead c (i + 1) + ofSection c i = total c - ahead c i := by omega
  rw [e]

/-! ### sections side by side -/
def Conv (p : Nat → Bool) : Prop := ∀ i j k, i ≤ j → j ≤ k → p i = true → p k = true → p j = true
theorem conv_mayA (c : Cable) (lo hi : Nat) : Conv (mayA c lo hi) := fun i j k h1 h2 a b => by
  unfold mayA at *
  simp only [Bool.and_eq_true, decide_eq_true_eq] at *
  have := ahead_mono c h2
  have := ahead_mono c (show i + 1 ≤ j + 1 by omega)
  omega
theorem conv_mayB (c : Cable) (lo hi : Nat) : Conv (mayB c lo hi) := fun i j k h1 h2 a b => by
  unfold mayB at *
  simp only [Bool.and_eq_true, decide_eq_true_eq] at *
  have := ahead_mono c (show j ≤ k by omega)
  have := ahead_mono c (show i ≤ j by omega)
  have := ahead_mono c (show i + 1 ≤ j + 1 by omega)
  have := ahead_mono c (show j + 1 ≤ k + 1 by omega)
  omega
theorem filt_none {p : Nat → Bool} : ∀ (n lo : Nat), (∀ j, lo ≤ j → p j = false) → (List.range' lo n).filter p = []
  | 0, _, _ => rfl
  | n + 1, lo, h => by
    rw [List.range'_succ, List.filter_cons, if_neg (by rw [h lo (Nat.le_refl _)]; simp)]
    exact filt_none n (lo + 1) fun j hj => h j (by omega)
theorem filt_run {p : Nat → Bool} (hc : Conv p) : ∀ (n lo : Nat), p lo = true → ∃ m, m ≤ n ∧ (List.range' (lo + 1) n).filter p = List.range' (lo + 1) m
  | 0, _, _ => ⟨0, Nat.le_refl _, rfl⟩
  | n + 1, lo, h => by
    rw [List.range'_succ, List.filter_cons]
    by_cases q : p (lo + 1) = true
    · rw [if_pos q]
      obtain ⟨m, h1, h2⟩ := filt_run hc n (lo + 1) q
      exact ⟨m + 1, by omega, by rw [h2, List.range'_succ]⟩
    · rw [if_neg q]
      refine ⟨0, Nat.zero_le _, ?_⟩
      exact filt_none n (lo + 1 + 1) fun j hj => by
        cases e : p j with
        | false => rfl
        | true => exact absurd (hc lo (lo + 1) j (by omega) (by omega) h e) q
theorem filt_conv {p : Nat → Bool} (hc : Conv p) : ∀ (n lo : Nat), ∃ h m, lo ≤ h ∧ h + m ≤ lo + n ∧ (List.range' lo n).filter p = List.range' h m
  | 0, lo => ⟨lo, 0, Nat.le_refl _, Nat.le_refl _, rfl⟩
  | n + 1, lo => by
    rw [List.range'_succ, List.filter_cons]
    by_cases q : p lo = true
    · rw [if_pos q]
      obtain ⟨m, h1, h2⟩ := filt_run hc n lo q
      exact ⟨lo, m + 1, Nat.le_refl _, by omega, by rw [h2, List.range'_succ]⟩
    · rw [if_neg q]
      obtain ⟨h, m, h1, h2, h3⟩ := filt_conv hc n (lo + 1)
      exact ⟨h, m, by omega, by omega, h3⟩
theorem only_run (c : Cable) (h m : Nat) : only c (List.range' h m) = if m = 0 then none else some (h, h + m) := by
  cases m with
  | zero => rfl
  | succ m =>
    unfold only
    rw [List.range'_succ, if_neg (by omega)]
    have e : (h :: List.range' (h + 1) m).getLast? = some (h + m) := by
      rw [← List.range'_succ, List.getLast?_range']
      simp
    rw [e]
    show some (h, h + m + 1) = some (h, h + (m + 1))
    rfl
theorem now_run (c : Cable) (h1 : c.from_ ≤ c.to) (h2 : c.to ≤ size c) : now c = List.range' c.from_ (c.to - c.from_) := by
  unfold now
  have e : List.range (size c) = List.range' 0 c.from_ ++ (List.range' c.from_ (c.to - c.from_) ++ List.range' c.to (size c - c.to)) := by
    rw [List.range_eq_range']
    have q1 : List.range' c.from_ (c.to - c.from_) ++ List.range' c.to (size c - c.to) = List.range' c.from_ (size c - c.from_) := by
      have := @List.range'_append c.from_ (c.to - c.from_) (size c - c.to) 1
      rw [show c.from_ + 1 * (c.to - c.from_) = c.to by omega, show c.to - c.from_ + (size c - c.to) = size c - c.from_ by omega] at this
      exact this
    rw [q1]
    have := @List.range'_append 0 c.from_ (size c - c.from_) 1
    rw [show 0 + 1 * c.from_ = c.from_ by omega, show c.from_ + (size c - c.from_) = size c by omega] at this
    exact this.symm
  rw [e, List.filter_append, List.filter_append]
  have f1 : (List.range' 0 c.from_).filter (fun i => decide (c.from_ ≤ i) && decide (i < c.to)) = [] := by
    rw [List.filter_eq_nil_iff]
    intro i hi
    have := List.mem_range'_1.mp hi
    simp; omega
  have f2 : (List.range' c.from_ (c.to - c.from_)).filter (fun i => decide (c.from_ ≤ i) && decide (i < c.to)) = List.range' c.from_ (c.to - c.from_) := by
    rw [List.filter_eq_self]
    intro i hi
    have := List.mem_range'_1.mp hi
    simp; omega
  have f3 : (List.range' c.to (size c - c.to)).filter (fun i => decide (c.from_ ≤ i) && decide (i < c.to)) = [] := by
    rw [List.filter_eq_nil_iff]
    intro i hi
    have := List.mem_range'_1.mp hi
    simp; omega
  rw [f1, f2, f3]; simp
theorem now_mem (c : Cable) (h1 : c.from_ ≤ c.to) (h2 : c.to ≤ size c) (t : Nat) : (now c).contains t = true ↔ c.from_ ≤ t ∧ t < c.to := by
  rw [now_run c h1 h2, List.contains_iff_mem, List.mem_range'_1]; omega
/-- what a measurement leaves -/
theorem left_run (c : Cable) (h1 : c.from_ ≤ c.to) (h2 : c.to ≤ size c) {p : Nat → Bool} (hc : Conv p) : ∃ h m, c.from_ ≤ h ∧ h + m ≤ c.to ∧ (now c).filter p = List.range' h m ∧
    cutBy c p = if m = 0 then none else some { c with from_ := h, to := h + m } := by
  rw [show cutBy c p = (only c ((now c).filter p)).map fun z => { c with from_ := z.1, to := z.2 } from rfl, now_run c h1 h2]
  obtain ⟨h, m, q1, q2, q3⟩ := filt_conv hc (c.to - c.from_) c.from_
  refine ⟨h, m, q1, by omega, q3, ?_⟩
  rw [q3, only_run]
  by_cases e : m = 0
  · rw [if_pos e, if_pos e]; rfl
  · rw [if_neg e, if_neg e]; rfl

/-! ### what holds of a cable -/
structure SecOk (s : Section) : Prop where
  m1 : 1 ≤ s.metres
  m2 : s.metres ≤ 1000
  e2 : s.each ≤ 100
  o1 : 1 ≤ s.opens
  o2 : s.opens ≤ 1000
structure Good (c : Cable) : Prop where
  n10 : size c ≤ 10
  ft : c.from_ ≤ c.to
  tn : c.to ≤ size c
  op : c.opened ≠ 0 → c.to - c.from_ < size c
  ne : 0 < size c → c.from_ < c.to
  sec : ∀ s ∈ c.sections, SecOk s
def GoodS : State → Prop
  | none => True
  | some c => Good c
end Ff


set_option Elab.async false
set_option linter.all false
/-! The flat list of calls, as the program reads it. -/
namespace Ff
def sizes : List Nat := [0, 3, 2, 2, 2, 2, 0, 0, 0, 1, 0, 1, 2, 0, 0, 0, 1, 1, 1, 0]
/-- how many whole numbers a call has -/
theorem shape_size {p : Int} {n k : Nat} (h : PyKp243.shape p = some (n, k)) : k = 0 ∧ ∃ j : Nat, p = (j : Int) ∧ sizes[j]? = some n := by
  by_cases h0 : p = 0
  · subst h0
    have e : (some (0, 0) : Option (Nat × Nat)) = some (n, k) := h
    cases e
    exact ⟨rfl, 0, rfl, rfl⟩
  by_cases h1 : p = 1
  · subst h1
    have e : (some (3, 0) : Option (Nat × Nat)) = some (n, k) := h
    cases e
    exact ⟨rfl, 1, rfl, rfl⟩
  by_cases h2 : p = 2
  · subst h2
    have e : (some (2, 0) : Option (Nat × Nat)) = some (n, k) := h
    cases e
    exact ⟨rfl, 2, rfl, rfl⟩
  by_cases h3 : p = 3
  · subst h3
    have e : (some (2, 0) : Option (Nat × Nat)) = some (n, k) := h
    cases e
    exact ⟨rfl, 3, rfl, rfl⟩
  by_cases h4 : p = 4
  · subst h4
    have e : (some (2, 0) : Option (Nat × Nat)) = some (n, k) := h
    cases e
    exact ⟨rfl, 4, rfl, rfl⟩
  by_cases h5 : p = 5
  · subst h5
    have e : (some (2, 0) : Option (Nat × Nat)) = some (n, k) := h
    cases e
    exact ⟨rfl, 5, rfl, rfl⟩
  by_cases h6 : p = 6
  · subst h6
    have e : (some (0, 0) : Option (Nat × Nat)) = some (n, k) := h
    cases e
    exact ⟨rfl, 6, rfl, rfl⟩
  by_cases h7 : p = 7
  · subst h7
    have e : (some (0, 0) : Option (Nat × Nat)) = some (n, k) := h
    cases e
    exact ⟨rfl, 7, rfl, rfl⟩
  by_cases h8 : p = 8
  · subst h8
    have e : (some (0, 0) : Option (Nat × Nat)) = some (n, k) := h
    cases e
    exact ⟨rfl, 8, rfl, rfl⟩
  by_cases h9 : p = 9
  · subst h9
    have e : (some (1, 0) : Option (Nat × Nat)) = some (n, k) := h
    cases e
    exact ⟨rfl, 9, rfl, rfl⟩
  by_cases h10 : p = 10
  · subst h10
    have e : (some (0, 0) : Option (Nat × Nat)) = some (n, k) := h
    cases e
    exact ⟨rfl, 10, rfl, rfl⟩
  by_cases h11 : p = 11
  · subst h11
    have e : (some (1, 0) : Option (Nat × Nat)) = some (n, k) := h
    cases e
    exact ⟨rfl, 11, rfl, rfl⟩
  by_cases h12 : p = 12
  · subst h12
    have e : (some (2, 0) : Option (Nat × Nat)) = some (n, k) := h
    cases e
    exact ⟨rfl, 12, rfl, rfl⟩
  by_cases h13 : p = 13
  · subst h13
    have e : (some (0, 0) : Option (Nat × Nat)) = some (n, k) := h
    cases e
    exact ⟨rfl, 13, rfl, rfl⟩
  by_cases h14 : p = 14
  · subst h14
    have e : (some (0, 0) : Option (Nat × Nat)) = some (n, k) := h
    cases e
    exact ⟨rfl, 14, rfl, rfl⟩
  by_cases h15 : p = 15
  · subst h15
    have e : (some (0, 0) : Option (Nat × Nat)) = some (n, k) := h
    cases e
    exact ⟨rfl, 15, rfl, rfl⟩
  by_cases h16 : p = 16
  · subst h16
    have e : (some (1, 0) : Option (Nat × Nat)) = some (n, k) := h
    cases e
    exact ⟨rfl, 16, rfl, rfl⟩
  by_cases h17 : p = 17
  · subst h17
    have e : (some (1, 0) : Option (Nat × Nat)) = some (n, k) := h
    cases e
    exact ⟨rfl, 17, rfl, rfl⟩
  by_cases h18 : p = 18
  · subst h18
    have e : (some (1, 0) : Option (Nat × Nat)) = some (n, k) := h
    cases e
    exact ⟨rfl, 18, rfl, rfl⟩
  by_cases h19 : p = 19
  · subst h19
    have e : (some (0, 0) : Option (Nat × Nat)) = some (n, k) := h
    cases e
    exact ⟨rfl, 19, rfl, rfl⟩
  exfalso
  unfold PyKp243.shape at h
  rw [if_neg h0, if_neg h1, if_neg h2, if_neg h3, if_neg h4, if_neg h5, if_neg h6, if_neg h7, if_neg h8, if_neg h9, if_neg h10, if_neg h11, if_neg h12, if_neg h13, if_neg h14, if_neg h15, if_neg h16, if_neg h17, if_neg h18, if_neg h19] at h
  cases h
/-- one call taken off -/
theorem calls_cons {f : Nat} {p : Int} {r : List Int} {cs : List (List (List Int))} (h : PyFlat.calls PyKp243.shape f (p :: r) = some cs) :
    ∃ n cs' f', PyKp243.shape p = some (n, 0) ∧ n ≤ r.length ∧ cs = [p :: r.take n] :: cs' ∧ PyFlat.calls PyKp243.shape f' (r.drop n) = some cs' := by
  cases f with
  | zero => cases h
  | succ f =>
    cases hs : PyKp243.shape p with
    | none => simp only [PyFlat.calls, PyFlat.call, hs] at h; cases h
    | some nk =>
      obtain ⟨n, k⟩ := nk
      obtain ⟨rfl, _⟩ := shape_size hs
      simp only [PyFlat.calls, PyFlat.call, hs, PyFlat.rows] at h
      by_cases hl : r.length < n
      · simp only [if_pos hl] at h; cases h
      · simp only [if_neg hl] at h
        cases hc : PyFlat.calls PyKp243.shape f (r.drop n) with
        | none => rw [hc] at h; cases h
        | some cs' =>
          rw [hc] at h
          exact ⟨n, cs', f, rfl, by omega, (Option.some.inj h).symm, hc⟩
theorem calls_nil {f : Nat} {cs : List (List (List Int))} (h : PyFlat.calls PyKp243.shape f [] = some cs) : cs = [] := by
  cases f <;> exact (Option.some.inj h).symm
theorem told_cons (a : List Int) (l : List (List Int)) : PyFlat.told (a :: l) = ((a.length : Int) :: a) ++ PyFlat.told l := rfl
/-- a call by its number and its whole numbers from 0 on -/
def call0 (j : Nat) : Option Kp243.Call := if j = 0 then some (.begin_) else if j = 6 then some (.where_) else if j = 7 then some (.least) else if j = 8 then some (.first) else if j = 10 then some (.fewest) else if j = 13 then some (.found) else if j = 14 then some (.again) else if j = 15 then some (.metres) else if j = 19 then some (.sums) else none
def call1 (j : Nat) (a : Nat) : Option Kp243.Call := if j = 9 then some (.would a) else if j = 11 then some (.spends a) else if j = 16 then some (.resist a) else if j = 17 then some (.point a) else if j = 18 then some (.look a) else none
def call2 (j : Nat) (a b : Nat) : Option Kp243.Call := if j = 2 then some (.cost a b) else if j = 3 then some (.measure a b) else if j = 4 then some (.other a b) else if j = 5 then some (.could a b) else if j = 12 then some (.open_ a b) else none
def call3 (j : Nat) (a b c : Nat) : Option Kp243.Call := if j = 1 then some (.section_ a b c) else none
def callN (j : Nat) : List Nat → Option Kp243.Call
  | [] => call0 j
  | [a] => call1 j a
  | [a, b] => call2 j a b
  | [a, b, c] => call3 j a b c
  | _ => none
theorem nat_of {a : Int} (h : Kp243Neutral.natural a = true) : a = ((a.toNat : Nat) : Int) := by
  unfold Kp243Neutral.natural at h
  simp only [Bool.and_eq_true, decide_eq_true_eq] at h
  omega
theorem il0 {l : List Int} (h : some 0 = some l.length) : l = [] := List.length_eq_zero_iff.mp (Option.some.inj h).symm
theorem il1 {l : List Int} (h : some 1 = some l.length) : ∃ a, l = [a] := List.length_eq_one_iff.mp (Option.some.inj h).symm
theorem il2 {l : List Int} (h : some 2 = some l.length) : ∃ a b, l = [a, b] := by
  cases l with
  | nil => cases h
  | cons a l =>
    obtain ⟨b, rfl⟩ := il1 (l := l) (by rw [List.length_cons] at h; injection h with h; rw [← Nat.succ.inj h])
    exact ⟨a, b, rfl⟩
theorem il3 {l : List Int} (h : some 3 = some l.length) : ∃ a b c, l = [a, b, c] := by
  cases l with
  | nil => cases h
  | cons a l =>
    obtain ⟨b, c, rfl⟩ := il2 (l := l) (by rw [List.length_cons] at h; injection h with h; rw [← Nat.succ.inj h])
    exact ⟨a, b, c, rfl⟩
/-- a call that is asked: its number, its whole numbers, and what it is -/
def CallIs (c : List (List Int)) : Prop := ∃ (j : Nat) (args : List Nat) (x : Kp243.Call), c = [(j : Int) :: args.map fun (n : Nat) => (n : Int)] ∧ callN j args = some x ∧ Kp243Neutral.callOf c = some x
/-- a call of the number j -/
def PJ (j : Nat) : Prop := ∀ args : List Int, sizes[j]? = some args.length → PyKp243.whole [(j : Int) :: args] = [(j : Int) :: args] ∧ (Kp243Neutral.asked1 [(j : Int) :: args] = true → CallIs [(j : Int) :: args])
theorem pj0 (j : Nat) (x : Kp243.Call) (hs : sizes[j]? = some 0) (h1 : PyKp243.whole [[(j : Int)]] = [[(j : Int)]]) (h3 : callN j [] = some x) (h4 : Kp243Neutral.callOf [[(j : Int)]] = some x) : PJ j := fun args h => by
  obtain rfl := il0 (hs.symm.trans h)
  exact ⟨h1, fun _ => ⟨j, [], x, rfl, h3, h4⟩⟩
theorem pj1 (j : Nat) (x : Nat → Kp243.Call) (hs : sizes[j]? = some 1) (h1 : ∀ a, PyKp243.whole [[(j : Int), a]] = [[(j : Int), a]]) (h2 : ∀ a, Kp243Neutral.asked1 [[(j : Int), a]] = Kp243Neutral.natural a) (h3 : ∀ a, callN j [a] = some (x a)) (h4 : ∀ a : Int, Kp243Neutral.callOf [[(j : Int), a]] = some (x a.toNat)) : PJ j := fun args h => by
  obtain ⟨a, rfl⟩ := il1 (hs.symm.trans h)
  refine ⟨h1 a, fun q => ⟨j, [a.toNat], x a.toNat, ?_, h3 _, h4 a⟩⟩
  rw [h2] at q
  rw [List.map_cons, List.map_nil, ← nat_of q]
theorem pj2 (j : Nat) (x : Nat → Nat → Kp243.Call) (hs : sizes[j]? = some 2) (h1 : ∀ a b, PyKp243.whole [[(j : Int), a, b]] = [[(j : Int), a, b]]) (h2 : ∀ a b, Kp243Neutral.asked1 [[(j : Int), a, b]] = (Kp243Neutral.natural a && Kp243Neutral.natural b)) (h3 : ∀ a b, callN j [a, b] = some (x a b)) (h4 : ∀ a b : Int, Kp243Neutral.callOf [[(j : Int), a, b]] = some (x a.toNat b.toNat)) : PJ j := fun args h => by
  obtain ⟨a, b, rfl⟩ := il2 (hs.symm.trans h)
  refine ⟨h1 a b, fun q => ⟨j, [a.toNat, b.toNat], x a.toNat b.toNat, ?_, h3 _ _, h4 a b⟩⟩
  rw [h2, Bool.and_eq_true] at q
  rw [List.map_cons, List.map_cons, List.map_nil, ← nat_of q.1, ← nat_of q.2]
theorem pj3 (j : Nat) (x : Nat → Nat → Nat → Kp243.Call) (hs : sizes[j]? = some 3) (h1 : ∀ a b c, PyKp243.whole [[(j : Int), a, b, c]] = [[(j : Int), a, b, c]]) (h2 : ∀ a b c, Kp243Neutral.asked1 [[(j : Int), a, b, c]] = (Kp243Neutral.natural a && (Kp243Neutral.natural b && Kp243Neutral.natural c))) (h3 : ∀ a b c, callN j [a, b, c] = some (x a b c)) (h4 : ∀ a b c : Int, Kp243Neutral.callOf [[(j : Int), a, b, c]] = some (x a.toNat b.toNat c.toNat)) : PJ j := fun args h => by
  obtain ⟨a, b, c, rfl⟩ := il3 (hs.symm.trans h)
  refine ⟨h1 a b c, fun q => ⟨j, [a.toNat, b.toNat, c.toNat], x a.toNat b.toNat c.toNat, ?_, h3 _ _ _, h4 a b c⟩⟩
  rw [h2, Bool.and_eq_true, Bool.and_eq_true] at q
  rw [List.map_cons, List.map_cons, List.map_cons, List.map_nil, ← nat_of q.1, ← nat_of q.2.1, ← nat_of q.2.2]
def pjs : List Nat → Prop
  | [] => True
  | j :: l => PJ j ∧ pjs l
theorem pjs_mem : ∀ {l : List Nat}, pjs l → ∀ j ∈ l, PJ j
  | [], _, j, h => nomatch h
  | k :: l, h, j, hj => by
    rcases List.mem_cons.mp hj with e | e
    · rw [e]; exact h.1
    · exact pjs_mem h.2 j e
theorem pj_all : pjs [0, 1, 2, 3, 4, 5, 6, 7, 8, 9, 10, 11, 12, 13, 14, 15, 16, 17, 18, 19] :=
  ⟨pj0 0 .begin_ rfl rfl rfl rfl, pj3 1 .section_ rfl (fun _ _ _ => rfl) (fun _ _ _ => rfl) (fun _ _ _ => rfl) (fun _ _ _ => rfl), pj2 2 .cost rfl (fun _ _ => rfl) (fun _ _ => rfl) (fun _ _ => rfl) (fun _ _ => rfl), pj2 3 .measure rfl (fun _ _ => rfl) (fun _ _ => rfl) (fun _ _ => rfl) (fun _ _ => rfl), pj2 4 .other rfl (fun _ _ => rfl) (fun _ _ => rfl) (fun _ _ => rfl) (fun _ _ => rfl), pj2 5 .could rfl (fun _ _ => rfl) (fun _ _ => rfl) (fun _ _ => rfl) (fun _ _ => rfl), pj0 6 .where_ rfl rfl rfl rfl, pj0 7 .least rfl rfl rfl rfl, pj0 8 .first rfl rfl rfl rfl, pj1 9 .would rfl (fun _ => rfl) (fun _ => rfl) (fun _ => rfl) (fun _ => rfl), pj0 10 .fewest rfl rfl rfl rfl, pj1 11 .spends rfl (fun _ => rfl) (fun _ => rfl) (fun _ => rfl) (fun _ => rfl), pj2 12 .open_ rfl (fun _ _ => rfl) (fun _ _ => rfl) (fun _ _ => rfl) (fun _ _ => rfl), pj0 13 .found rfl rfl rfl rfl, pj0 14 .again rfl rfl rfl rfl, pj0 15 .metres rfl rfl rfl rfl, pj1 16 .resist rfl (fun _ => rfl) (fun _ => rfl) (fun _ => rfl) (fun _ => rfl), pj1 17 .point rfl (fun _ => rfl) (fun _ => rfl) (fun _ => rfl) (fun _ => rfl), pj1 18 .look rfl (fun _ => rfl) (fun _ => rfl) (fun _ => rfl) (fun _ => rfl), pj0 19 .sums rfl rfl rfl rfl, trivial⟩
theorem pj {j : Nat} {args : List Int} (h : sizes[j]? = some args.length) : PJ j := by
  have hj : j < 20 := (List.getElem?_eq_some_iff.mp h).1
  exact pjs_mem pj_all j (List.mem_range.mpr hj)
/-- what is asked of a list, taken apart -/
theorem calls_ok : ∀ (cs : List (List (List Int))) (f : Nat) (l : List Int), PyFlat.calls PyKp243.shape f l = some cs → ∀ c ∈ cs, PyKp243.whole c = c ∧ (Kp243Neutral.asked1 c = true → CallIs c)
  | [], _, _, _, c, hc => nomatch hc
  | c0 :: cs, f, [], h, c, hc => by rw [calls_nil h] at hc; cases hc
  | c0 :: cs, f, p :: r, h, c, hc => by
    obtain ⟨n, cs', f', hs, hn, e, h'⟩ := calls_cons h
    injection e with e1 e2
    rcases List.mem_cons.mp hc with q | q
    · obtain ⟨_, j, ej, hj⟩ := shape_size hs
      rw [q, e1, ej]
      have hl : sizes[j]? = some (r.take n).length := by rw [List.length_take, Nat.min_eq_left hn]; exact hj
      exact pj hl _ hl
    · exact calls_ok cs f' (r.drop n) (by rw [e2]; exact h') c q
theorem map_whole {cs : List (List (List Int))} (h : ∀ c ∈ cs, PyKp243.whole c = c) : cs.map PyKp243.whole = cs := by
  rw [List.map_congr_left (g := id) h, List.map_id]
theorem asked_split {ns : List Int} (h : PyKp243.answers_asked ns = true) : ∃ cs, PyFlat.calls PyKp243.shape ns.length ns = some cs ∧ (∀ c ∈ cs, CallIs c) ∧
    PyKp243.answers ns = PyFlat.told (PyFlat.played Kp243Neutral.step Kp243Neutral.start cs) := by
  unfold PyKp243.answers_asked at h
  cases hc : PyFlat.calls PyKp243.shape ns.length ns with
  | none => rw [hc] at h; cases h
  | some cs =>
    have ok := calls_ok cs _ _ hc
    have hw := map_whole fun c hc => (ok c hc).1
    rw [hc] at h
    simp only [Bool.and_eq_true, hw] at h
    obtain ⟨⟨⟨⟨_, _⟩, _⟩, h4⟩, _⟩ := h
    unfold Kp243Neutral.asked at h4
    simp only [Bool.and_eq_true] at h4
    refine ⟨cs, rfl, fun c hcm => (ok c hcm).2 (List.all_eq_true.mp h4.2.2 c hcm), ?_⟩
    unfold PyKp243.answers PyKp243.calls
    rw [hc]
    simp only [hw]
/-- what is answered to a call -/
def ansL (s : Kp243.State) (x : Kp243.Call) : List Int := (Kp243.step s x).2.num :: (Kp243.step s x).2.nums
theorem played_cons (s : Kp243.State) (c : List (List Int)) (cs : List (List (List Int))) {x : Kp243.Call} (h : Kp243Neutral.callOf c = some x) :
    PyFlat.told (PyFlat.played Kp243Neutral.step s (c :: cs)) = (((ansL s x).length : Int) :: ansL s x) ++ PyFlat.told (PyFlat.played Kp243Neutral.step (Kp243.step s x).1 cs) := by
  have e : Kp243Neutral.step s c = ((Kp243.step s x).1, ansL s x) := by
    unfold Kp243Neutral.step
    rw [h]
    rfl
  show PyFlat.told ((Kp243Neutral.step s c).2 :: PyFlat.played Kp243Neutral.step (Kp243Neutral.step s c).1 cs) = _
  rw [told_cons, e]
end Ff


set_option Elab.async false
set_option linter.all false
/-! What holds of a cable stays so, whatever is called. -/
namespace Ff
open Kp243
theorem good_new : Good ⟨[], 0, 0, 0, 0⟩ :=
  ⟨by show 0 ≤ 10; omega, Nat.le_refl _, Nat.le_refl _, fun h => absurd rfl h, fun h => absurd h (Nat.lt_irrefl _), fun s hs => nomatch hs⟩
theorem good_cut {c : Cable} (g : Good c) {h m : Nat} (h1 : c.from_ ≤ h) (h2 : h + m ≤ c.to) (hm : m ≠ 0) : Good { c with from_ := h, to := h + m } := by
  have a1 := g.tn
  have a2 := g.ft
  refine ⟨g.n10, by show h ≤ h + m; omega, by show h + m ≤ size c; omega, fun ho => ?_, fun _ => by show h < h + m; omega, g.sec⟩
  have := g.op ho
  show h + m - h < size c
  omega
theorem good_cutBy {c d : Cable} (g : Good c) {p : Nat → Bool} (hc : Conv p) (e : cutBy c p = some d) : Good d := by
  obtain ⟨h, m, q1, q2, _, q4⟩ := left_run c g.ft g.tn hc
  rw [q4] at e
  by_cases hm : m = 0
  · rw [if_pos hm] at e; cases e
  · rw [if_neg hm] at e
    rw [← Option.some.inj e]
    exact good_cut g q1 q2 hm
theorem good_section {c : Cable} (g : Good c) {m e o : Nat} (h : ¬ (m = 0 ∨ 1000 < m ∨ 100 < e ∨ o = 0 ∨ 1000 < o)) (h2 : ¬ (c.from_ ≠ 0 ∨ c.to ≠ size c ∨ c.opened ≠ 0)) (h3 : ¬ SECTIONS ≤ size c) :
    Good { c with sections := c.sections ++ [⟨m, e, o⟩], to := c.to + 1 } := by
  have h3' : size c < 10 := by
    have : ¬ (10 ≤ size c) := h3
    omega
  have es : size { c with sections := c.sections ++ [⟨m, e, o⟩], to := c.to + 1 } = size c + 1 := by
    unfold size; rw [List.length_append]; rfl
  refine ⟨by rw [es]; omega, by show c.from_ ≤ c.to + 1; omega, by rw [es]; show c.to + 1 ≤ size c + 1; omega, fun ho => ?_, fun _ => by show c.from_ < c.to + 1; omega, fun s hs => ?_⟩
  · exact absurd (.inr (.inr ho)) h2
  · rcases List.mem_append.mp hs with q | q
    · exact g.sec s q
    · rw [List.mem_singleton.mp q]
      exact ⟨by show 1 ≤ m; omega, by show m ≤ 1000; omega, by show e ≤ 100; omega, by show 1 ≤ o; omega, by show o ≤ 1000; omega⟩
theorem good_cost {c : Cable} (g : Good c) {i o : Nat} (hi : i < size c) (ho : ¬ (o = 0 ∨ 1000 < o)) : Good { c with sections := c.sections.set i { at_ c i with opens := o } } := by
  have es : size { c with sections := c.sections.set i { at_ c i with opens := o } } = size c := by
    unfold size; rw [List.length_set]
  refine ⟨by rw [es]; exact g.n10, g.ft, by rw [es]; exact g.tn, fun h => by rw [es]; exact g.op h, fun h => g.ne (by rw [es] at h; exact h), fun s hs => ?_⟩
  rcases List.mem_or_eq_of_mem_set hs with q | q
  · exact g.sec s q
  · have e : c.sections[i]? = some c.sections[i] := List.getElem?_eq_getElem hi
    have e2 : at_ c i = c.sections[i] := by unfold at_; rw [List.getD_eq_getElem?_getD, e]; rfl
    have k := g.sec _ (List.getElem_mem hi)
    rw [← e2] at k
    rw [q]
    exact ⟨k.m1, k.m2, k.e2, by show 1 ≤ o; omega, by show o ≤ 1000; omega⟩
theorem good_again {c : Cable} (g : Good c) : Good { c with from_ := 0, to := size c, opened := 0, spent := 0 } :=
  ⟨g.n10, Nat.zero_le _, Nat.le_refl _, fun h => absurd rfl h, fun h => h, g.sec⟩
theorem good_open {c : Cable} (g : Good c) {i d k s : Nat} (h1 : c.from_ ≤ i) (h2 : i + 1 < c.to) : Good { (if d = 0 then { c with to := i + 1 } else { c with from_ := i + 1 } : Cable) with opened := k, spent := s } := by
  have a1 := g.tn
  have a2 := g.ft
  by_cases hd : d = 0
  · rw [if_pos hd]
    refine ⟨g.n10, by show c.from_ ≤ i + 1; omega, by show i + 1 ≤ size c; omega, fun _ => by show i + 1 - c.from_ < size c; omega, fun _ => by show c.from_ < i + 1; omega, g.sec⟩
  · rw [if_neg hd]
    refine ⟨g.n10, by show i + 1 ≤ c.to; omega, by show c.to ≤ size c; omega, fun _ => by show c.to - (i + 1) < size c; omega, fun _ => by show i + 1 < c.to; omega, g.sec⟩
theorem step_good {s : State} (g : GoodS s) (x : Call) : GoodS (step s x).1 := by
  cases s with
  | none => cases x <;> first | exact good_new | exact trivial
  | some c =>
    have g : Good c := g
    cases x with
    | begin_ => exact good_new
    | section_ m e o =>
      show GoodS (if _ then _ else _ : State × Ans).1
      by_cases h : m = 0 ∨ 1000 < m ∨ 100 < e ∨ o = 0 ∨ 1000 < o
      · rw [if_pos h]; exact g
      · rw [if_neg h]
        by_cases h2 : c.from_ ≠ 0 ∨ c.to ≠ size c ∨ c.opened ≠ 0
        · rw [if_pos h2]; exact g
        · rw [if_neg h2]
          by_cases h3 : SECTIONS ≤ size c
          · rw [if_pos h3]; exact g
          · rw [if_neg h3]; exact good_section g h h2 h3
    | cost i o =>
      show GoodS (if _ then _ else _ : State × Ans).1
      by_cases h : isSection c i = false
      · rw [if_pos h]; exact g
      · rw [if_neg h]
        by_cases h2 : o = 0 ∨ 1000 < o
        · rw [if_pos h2]; exact g
        · rw [if_neg h2]
          refine good_cost g ?_ h2
          unfold isSection at h
          simpa using h
    | measure lo hi =>
      show GoodS (if _ then _ else _ : State × Ans).1
      by_cases h : hi < lo
      · rw [if_pos h]; exact g
      · rw [if_neg h]
        cases e : cutBy c (mayA c lo hi) with
        | none => exact g
        | some d => exact good_cutBy g (conv_mayA c lo hi) e
    | other lo hi =>
      show GoodS (if _ then _ else _ : State × Ans).1
      by_cases h : hi < lo
      · rw [if_pos h]; exact g
      · rw [if_neg h]
        cases e : cutBy c (mayB c lo hi) with
        | none => exact g
        | some d => exact good_cutBy g (conv_mayB c lo hi) e
    | open_ i d =>
      show GoodS (if _ then _ else _ : State × Ans).1
      by_cases h : (choices c).contains i = false
      · rw [if_pos h]; exact g
      · rw [if_neg h]
        by_cases h2 : 1 < d
        · rw [if_pos h2]; exact g
        · rw [if_neg h2]
          have hm := (choices_mem c i).mp (by simpa using h)
          exact good_open g hm.1 hm.2
    | again => exact good_again g
    | _ => exact g
end Ff


set_option Elab.async false
set_option linter.all false
/-! spends and point, as the specification tells them. -/
namespace Ff
open Kp243
/-! ### first: where it stands, and that it is there -/
theorem first_is (c : Cable) (h : c.to ≤ c.from_ + 11) (h2 : c.from_ + 1 < c.to) : ∃ k, k < c.to - c.from_ - 1 ∧ first c = some (c.from_ + k) ∧ cost c (c.from_ + k) = least c ∧ ∀ j, j < k → cost c (c.from_ + j) ≠ least c := by
  have hl : costsW (prices c) c.from_ c.to ≠ [] := fun e => by
    have := costsW_len (prices c) c.from_ c.to
    rw [e] at this
    simp at this
    omega
  obtain ⟨hm, _⟩ := minOr_mem hl
  rw [← Wst_min, ← least_Wst c h] at hm
  obtain ⟨k, hk, e⟩ := List.getElem_of_mem hm
  have hk' : k < c.to - c.from_ - 1 := by rw [costsW_len] at hk; exact hk
  have ek : cost c (c.from_ + k) = least c := by
    have q := cost_at c k h hk'
    rw [List.getElem?_eq_getElem hk, e] at q
    exact (Option.some.inj q).symm
  -- the least such k
  have low : ∀ n, (∃ k, k < n ∧ k < c.to - c.from_ - 1 ∧ cost c (c.from_ + k) = least c) → ∃ k, k < c.to - c.from_ - 1 ∧ cost c (c.from_ + k) = least c ∧ ∀ j, j < k → cost c (c.from_ + j) ≠ least c := by
    intro n
    induction n with
    | zero => rintro ⟨k, hk, _⟩; omega
    | succ n ih =>
      rintro ⟨k, hk, h1, h2⟩
      by_cases hex : ∃ k, k < n ∧ k < c.to - c.from_ - 1 ∧ cost c (c.from_ + k) = least c
      · exact ih hex
      · refine ⟨k, h1, h2, fun j hj z => hex ⟨j, by omega, by omega, z⟩⟩
  obtain ⟨k, h3, h4, h5⟩ := low (k + 1) ⟨k, by omega, hk', ek⟩
  exact ⟨k, h3, first_some c k h h3 h4 h5, h4, h5⟩
/-! ### spends -/
theorem spent_none (c : Cable) (t n : Nat) (h : c.to ≤ c.from_ + 1) : spentFor c t n = 0 := by
  cases n with
  | zero => rfl
  | succ n =>
    unfold spentFor
    rw [first_none c h]
theorem spent_fuel : ∀ (n m : Nat) (c : Cable) (t : Nat), c.to ≤ c.from_ + 11 → c.to ≤ c.from_ + n + 1 → c.to ≤ c.from_ + m + 1 → spentFor c t n = spentFor c t m
  | 0, m, c, t, _, h1, _ => by rw [spent_none c t m (by omega)]; rfl
  | n + 1, 0, c, t, _, _, h2 => by rw [spent_none c t (n + 1) (by omega)]; rfl
  | n + 1, m + 1, c, t, h, h1, h2 => by
    by_cases hz : c.to ≤ c.from_ + 1
    · rw [spent_none c t _ hz, spent_none c t _ hz]
    · obtain ⟨k, hk, hf, _⟩ := first_is c h (by omega)
      unfold spentFor
      rw [hf]
      simp only
      by_cases ht : t ≤ c.from_ + k
      · rw [if_pos ht, if_pos ht, spent_fuel n m { c with to := c.from_ + k + 1 } t (by show c.from_ + k + 1 ≤ c.from_ + 11; omega) (by show c.from_ + k + 1 ≤ c.from_ + n + 1; omega) (by show c.from_ + k + 1 ≤ c.from_ + m + 1; omega)]
      · rw [if_neg ht, if_neg ht, spent_fuel n m { c with from_ := c.from_ + k + 1 } t (by show c.to ≤ c.from_ + k + 1 + 11; omega) (by show c.to ≤ c.from_ + k + 1 + n + 1; omega) (by show c.to ≤ c.from_ + k + 1 + m + 1; omega)]
/-- what the best way spends, if it is in t -/
def spent (c : Cable) (t : Nat) : Nat := spentFor c t SECTIONS
theorem spent_one (c : Cable) (t : Nat) (h : c.to ≤ c.from_ + 1) : spent c t = 0 := spent_none c t _ h
theorem spent_step (c : Cable) (t : Nat) {i : Nat} (h : c.to ≤ c.from_ + 11) (hf : first c = some i) (h1 : c.from_ ≤ i) (h2 : i + 1 < c.to) :
    spent c t = (at_ c i).opens + if t ≤ i then spent { c with to := i + 1 } t else spent { c with from_ := i + 1 } t := by
  unfold spent
  show spentFor c t (9 + 1) = _
  rw [show spentFor c t (9 + 1) = (match first c with | none => 0 | some i => (at_ c i).opens + (if t ≤ i then spentFor { c with to := i + 1 } t 9 else spentFor { c with from_ := i + 1 } t 9)) from rfl, hf]
  simp only
  by_cases ht : t ≤ i
  · rw [if_pos ht, if_pos ht, spent_fuel 9 10 { c with to := i + 1 } t (by show i + 1 ≤ c.from_ + 11; omega) (by show i + 1 ≤ c.from_ + 9 + 1; omega) (by show i + 1 ≤ c.from_ + 10 + 1; omega)]
    rfl
  · rw [if_neg ht, if_neg ht, spent_fuel 9 10 { c with from_ := i + 1 } t (by show c.to ≤ i + 1 + 11; omega) (by show c.to ≤ i + 1 + 9 + 1; omega) (by show c.to ≤ i + 1 + 10 + 1; omega)]
    rfl
/-! ### point -/
def upTo (e r : Nat) : Nat := if e = 0 then 0 else (r + e - 1) / e
theorem point_go (c : Cable) (r s : Nat) (hs : s < size c) (hr : r ≤ ahead c (s + 1)) (hno : ∀ j, j < s → ahead c (j + 1) < r) : ∀ (n i : Nat), i ≤ s → s - i < n →
    pointFrom c n i (r - ahead c i) = some (sumOf ((c.sections.take s).map fun x => x.metres) + upTo (at_ c s).each (r - ahead c s))
  | 0, i, _, h => by omega
  | n + 1, i, hi, h => by
    unfold pointFrom
    rw [if_neg (by omega)]
    have e1 := ahead_succ c i
    by_cases he : i = s
    · subst he
      rw [if_pos (by omega)]
      rfl
    · have h1 := hno i (by omega)
      rw [if_neg (by omega), show r - ahead c i - ofSection c i = r - ahead c (i + 1) by omega]
      exact point_go c r s hs hr hno n (i + 1) (by omega) (by omega)
theorem point_some (c : Cable) (r s : Nat) (h10 : size c ≤ 10) (hs : s < size c) (hr : r ≤ ahead c (s + 1)) (hno : ∀ j, j < s → ahead c (j + 1) < r) :
    pointFrom c SECTIONS 0 r = some (sumOf ((c.sections.take s).map fun x => x.metres) + upTo (at_ c s).each (r - ahead c s)) := by
  have h := point_go c r s hs hr hno 10 0 (Nat.zero_le _) (by omega)
  rw [show ahead c 0 = 0 from rfl, Nat.sub_zero] at h
  exact h
theorem point_no (c : Cable) (r : Nat) (h : total c < r) : ∀ (n i : Nat), i ≤ size c → pointFrom c n i (r - ahead c i) = none
  | 0, _, _ => rfl
  | n + 1, i, hi => by
    unfold pointFrom
    by_cases he : size c ≤ i
    · rw [if_pos he]
    · rw [if_neg he]
      have e1 := ahead_succ c i
      have e2 := ahead_total c (i + 1)
      rw [if_neg (by omega), show r - ahead c i - ofSection c i = r - ahead c (i + 1) by omega]
      exact point_no c r h n (i + 1) (by omega)
theorem point_none (c : Cable) (r : Nat) (h : size c = 0 ∨ total c < r) : pointFrom c SECTIONS 0 r = none := by
  rcases h with h | h
  · show pointFrom c (9 + 1) 0 r = none
    unfold pointFrom
    rw [if_pos (by omega)]
  · have q := point_no c r h 10 0 (Nat.zero_le _)
    rw [show ahead c 0 = 0 from rfl, Nat.sub_zero] at q
    exact q
/-- there is a first section up to whose end there is r or more -/
theorem point_ex (c : Cable) (r : Nat) (h0 : 0 < size c) (h : r ≤ total c) : ∃ s, s < size c ∧ r ≤ ahead c (s + 1) ∧ ∀ j, j < s → ahead c (j + 1) < r := by
  have low : ∀ n, (∃ s, s < n ∧ s < size c ∧ r ≤ ahead c (s + 1)) → ∃ s, s < size c ∧ r ≤ ahead c (s + 1) ∧ ∀ j, j < s → ahead c (j + 1) < r := by
    intro n
    induction n with
    | zero => rintro ⟨s, hs, _⟩; omega
    | succ n ih =>
      rintro ⟨s, hs, h1, h2⟩
      by_cases hex : ∃ s, s < n ∧ s < size c ∧ r ≤ ahead c (s + 1)
      · exact ih hex
      · refine ⟨s, h1, h2, fun j hj => ?_⟩
        by_cases q : r ≤ ahead c (j + 1)
        · exact absurd ⟨j, by omega, by omega, q⟩ hex
        · omega
  refine low (size c) ⟨size c - 1, by omega, by omega, ?_⟩
  rw [show size c - 1 + 1 = size c by omega]
  exact h
end Ff


set_option Elab.async false
set_option linter.all false
set_option maxRecDepth 100000
set_option maxHeartbeats 2000000
/-! Rules beyond the layer: range, list(range), min with a default, a call of a function that an expression gives. -/
namespace Ff
open PySem PySem.Spec PyProof.Rows L2
section
variable {prog : Program} {w : World} {A : Around} {R : Result → Shared → Prop} {I : Addr} {fp wr : List Addr} {n : Nat} {P : Nat → Value → Prop} {St : Nat → Heap → Prop}
/-- min's loop behind its first item, whatever the keywords -/
theorem mnLoop {kw : List (Str × Value)} (W : Walks prog w A.in1 I fp wr n P St) (bt : Nat → Nat → Bool) (cm : CmpOf prog w A.in1 .Lt P bt) (B : Addr) (nb : B ∉ fp) :
    ∀ (k j : Nat) (s : Shared) (vb : Value) (c : Nat), n - (j + 1) = k → j + 1 ≤ n → St (j + 1) s.heap → P (argBest bt j) vb →
    s.heap.get? B = some { cls := .type "list", dict := none, data := .seq #[vb, vb] c, slots := #[] } →
    (∀ v h' tk, P (argBest bt (n - 1)) v → (∀ b o, b ∉ wr → b ≠ B → s.heap.get? b = some o → h'.get? b = some o) → R (.ok (.ret v)) { s with heap := h', toks := tk }) →
    codeAny (model prog w) A (.builtin "min.loop" ⟨[.ref I, .none, .ref B], kw⟩) R s := by
  have nw : B ∉ wr := fun h => nb (W.sub _ h)
  have nm : (toString "min" ++ toString ".loop" : String) = "min.loop" := by decide
  intro k
  induction k with
  | zero =>
    intro j s vb c e1 e2 st pb hB fin
    have e3 : j + 1 = n := by omega
    refine codeAny_builtin F.entry_min_loop ?_
    rw [Around.under_plainId F.plain_min_loop _]
    show wpAny _ A.in1 (seqItems? (.ref B) >>= _) _ _ s
    refine wpAny_bind (wpAny_seqItems hB rfl ?_)
    show wpAny _ A.in1 (tryCatch (pyNext (.ref I)) _ >>= _) _ _ s
    refine wpAny_bind (wpAny_tryCatch (W.done s _ _ (e3 ▸ st) fun h1 tk q1 => ?_))
    have hB1 := q1 B _ nw hB
    show wpAny _ A.in1 (updateSeq B (fun _ => #[]) >>= _) _ _ _
    refine wpAny_bind (wpAny_updateSeq hB1 rfl (wpAny_bind (wpAny_letGo (wpAny_pure ?_))))
    exact fin vb _ tk (by rw [← e3]; exact pb) fun b o z1 z2 e => (Heap.get?_update_other _ _ (Ne.symm z2)).trans (q1 b o z1 e)
  | succ k ih =>
    intro j s vb c e1 e2 st pb hB fin
    have lt : j + 1 < n := by omega
    refine codeAny_builtin F.entry_min_loop ?_
    rw [Around.under_plainId F.plain_min_loop _]
    show wpAny _ A.in1 (seqItems? (.ref B) >>= _) _ _ s
    refine wpAny_bind (wpAny_seqItems hB rfl ?_)
    show wpAny _ A.in1 (tryCatch (pyNext (.ref I)) _ >>= _) _ _ s
    refine wpAny_bind (wpAny_tryCatch (W.item (j + 1) s _ _ lt st fun v h1 tk pv st1 q1 => ?_))
    have hB1 := q1 B _ nw hB
    show wpAny _ A.in1 (tryCatch (holding [v, v] (richCompare .Lt v vb >>= _)) _ >>= _) _ _ _
    refine wpAny_bind (wpAny_tryCatch (wpAny_holding (wpAny_bind (cm (j + 1) (argBest bt j) v vb _ _ _ pv pb ?_))))
    refine wpAny_bind (wpAny_holding (wpAny_truthy_bool ?_))
    refine wpAny_bind (wpAny_letGo (wpAny_pure ?_))
    cases hb : bt (j + 1) (argBest bt j) with
    | true =>
      simp only [if_true]
      refine wpAny_bind (wpAny_updateSeq hB1 rfl (wpAny_bind (wpAny_letGo ?_)))
      rw [nm]
      refine wpAny_pure ⟨plainId_quiet F.plain_min_loop _, ih (j + 1) _ v _ (by omega) lt (W.frame _ _ _ st1 fun b zb o e => ?_) (by simp only [argBest, hb, if_true]; exact pv) (Heap.get?_update_self _ hB1 rfl) fun v2 h2 tk2 p2 q2 => ?_⟩
      · exact (Heap.get?_update_other _ _ (fun h : B = b => nb (by rw [h]; exact zb))).trans e
      · exact fin v2 h2 tk2 p2 fun b o z1 z2 e => q2 b o z1 z2 ((Heap.get?_update_other _ _ (Ne.symm z2)).trans (q1 b o z1 e))
    | false =>
      simp only [Bool.false_eq_true, if_false]
      refine wpAny_bind (wpAny_letGo ?_)
      rw [nm]
      refine wpAny_pure ⟨plainId_quiet F.plain_min_loop _, ih (j + 1) _ vb c (by omega) lt st1 (by simp only [argBest, hb, Bool.false_eq_true, if_false]; exact pb) hB1 fun v2 h2 tk2 p2 q2 => ?_⟩
      exact fin v2 h2 tk2 p2 fun b o z1 z2 e => q2 b o z1 z2 (q1 b o z1 e)
/-- from the first item -/
theorem mnFirst {kw : List (Str × Value)} (W : Walks prog w A.in1 I fp wr n P St) (bt : Nat → Nat → Bool) (cm : CmpOf prog w A.in1 .Lt P bt) (B : Addr) (nb : B ∉ fp) (hn : 0 < n) {s : Shared} {c : Nat} (st : St 0 s.heap)
    (hB : s.heap.get? B = some { cls := .type "list", dict := none, data := .seq #[] c, slots := #[] })
    (fin : ∀ v h' tk, P (argBest bt (n - 1)) v → (∀ b o, b ∉ wr → b ≠ B → s.heap.get? b = some o → h'.get? b = some o) → R (.ok (.ret v)) { s with heap := h', toks := tk }) :
    codeAny (model prog w) A (.builtin "min.loop" ⟨[.ref I, .none, .ref B], kw⟩) R s := by
  have nw : B ∉ wr := fun h => nb (W.sub _ h)
  have nm : (toString "min" ++ toString ".loop" : String) = "min.loop" := by decide
  refine codeAny_builtin F.entry_min_loop ?_
  rw [Around.under_plainId F.plain_min_loop _]
  show wpAny _ A.in1 (seqItems? (.ref B) >>= _) _ _ s
  refine wpAny_bind (wpAny_seqItems hB rfl ?_)
  show wpAny _ A.in1 (tryCatch (pyNext (.ref I)) _ >>= _) _ _ s
  refine wpAny_bind (wpAny_tryCatch (W.item 0 s _ _ hn st fun v h1 tk pv st1 q1 => ?_))
  have hB1 := q1 B _ nw hB
  show wpAny _ A.in1 (updateSeq B (fun _ => #[v, v]) >>= _) _ _ _
  refine wpAny_bind (wpAny_updateSeq hB1 rfl ?_)
  rw [nm]
  refine wpAny_pure ⟨plainId_quiet F.plain_min_loop _, mnLoop W bt cm B nb _ 0 _ v _ rfl hn (W.frame _ _ _ st1 fun b zb o e => ?_) pv (Heap.get?_update_self _ hB1 rfl) fun v2 h2 tk2 p2 q2 => ?_⟩
  · exact (Heap.get?_update_other _ _ (fun h : B = b => nb (by rw [h]; exact zb))).trans e
  · exact fin v2 h2 tk2 p2 fun b o z1 z2 e => q2 b o z1 z2 ((Heap.get?_update_other _ _ (Ne.symm z2)).trans (q1 b o z1 e))
/-- of nothing: the default -/
theorem mnNone {x : Str} {d : Value} (W : Walks prog w A.in1 I fp wr n P St) (B : Addr) (nb : B ∉ fp) (hn : n = 0) {s : Shared} {c : Nat} (st : St 0 s.heap)
    (hB : s.heap.get? B = some { cls := .type "list", dict := none, data := .seq #[] c, slots := #[] })
    (fin : ∀ h' tk, (∀ b o, b ∉ wr → s.heap.get? b = some o → h'.get? b = some o) → R (.ok (.ret d)) { s with heap := h', toks := tk }) :
    codeAny (model prog w) A (.builtin "min.loop" ⟨[.ref I, .none, .ref B], [(x, d)]⟩) R s := by
  refine codeAny_builtin F.entry_min_loop ?_
  rw [Around.under_plainId F.plain_min_loop _]
  show wpAny _ A.in1 (seqItems? (.ref B) >>= _) _ _ s
  refine wpAny_bind (wpAny_seqItems hB rfl ?_)
  show wpAny _ A.in1 (tryCatch (pyNext (.ref I)) _ >>= _) _ _ s
  refine wpAny_bind (wpAny_tryCatch (W.done s _ _ (hn ▸ st) fun h1 tk q1 => ?_))
  refine wpAny_bind (wpAny_rule (wpAny_pure ?_))
  exact fin h1 tk q1
end

section
variable {prog : Program} {w : World} {A : Around} {E : Value → Shared → Prop} {s : Shared} {l : Addr} {xs : Array (Int × Tok)}
theorem mnArgs (a d : Value) : argsOk "min" ⟨[a], [(Str.ofString "default", d)]⟩ := by unfold argsOk; kernel_rfl
theorem min_dflt {d : Value} {Q : Value → Shared → Prop} (hh : A.handled = none) (hl : s.heap.IsList l (intItems xs))
    (h0 : xs.size = 0 → ∀ h' tk, (∀ b o, s.heap.get? b = some o → h'.get? b = some o) → Q d { s with heap := h', toks := tk })
    (h : 0 < xs.size → ∀ v h' tk, (intItems xs)[argBest (fun i j => decide (numAt xs i < numAt xs j)) (xs.size - 1)]? = some v → (∀ b o, s.heap.get? b = some o → h'.get? b = some o) → Q v { s with heap := h', toks := tk }) :
    wpAny (model prog w) A (call (.builtin "min") [.ref l] [(Str.ofString "default", d)]) Q E s := by
  have nm : (toString "min" ++ toString ".loop" : String) = "min.loop" := by decide
  refine kmb_tree F.kind_min F.plain_min F.entry_min (mnArgs _ _) ?_
  show wpAny _ A.in1 (Builtin.Builtins.bindParams "min" ["key", "default"] 0 ⟨[], [(Str.ofString "default", d)]⟩ >>= _) _ _ s
  refine wpAny_bind (wpAny_of_eq (show Builtin.Builtins.bindParams "min" ["key", "default"] 0 ⟨[], [(Str.ofString "default", d)]⟩ = pure [none, some d] from rfl) ?_)
  refine wpAny_bind (wpAny_pure ?_)
  refine wpAny_bind (iter_intList hl fun s2 e st hfp hlI => ?_)
  subst e
  refine wpAny_bind (wpAny_newObj_type ?_)
  rw [nm]
  have W := Walks.list (prog := prog) (w := w) (A := A.in1) hh s.heap.objs.size l hlI (intItems xs)
  have hsz : (intItems xs).size = xs.size := by simp [intItems]
  generalize hh2 : s.heap.push { cls := .type "list_iterator", data := .fields #[.ref l, .int 0 0] } = h2 at *
  have nb : h2.objs.size ∉ [s.heap.objs.size, l] := fun hm => Nat.lt_irrefl _ (hfp _ hm)
  have old : ∀ b o, s.heap.get? b = some o → b ∉ [s.heap.objs.size] ∧ b ≠ h2.objs.size ∧ (h2.push { cls := .type "list", data := .seq ([] : List Value).toArray }).get? b = some o := fun b o e => by
    have q := Heap.lt_size e
    refine ⟨fun z => ?_, ?_, Heap.get?_push_of_some _ (by rw [← hh2]; exact Heap.get?_push_of_some _ e)⟩
    · rw [List.mem_singleton.mp z] at q
      exact Nat.lt_irrefl _ q
    · intro z
      have e2 : h2.objs.size = s.heap.objs.size + 1 := by rw [← hh2]; exact Heap.size_push _ _
      rw [z, e2] at q
      exact Nat.lt_irrefl _ (Nat.lt_of_succ_lt q)
  have st3 := W.frame _ _ (h2.push { cls := .type "list", data := .seq ([] : List Value).toArray }) st fun b _ o e => Heap.get?_push_of_some _ e
  by_cases hz : xs.size = 0
  · refine wpAny_pure ⟨plainId_quiet F.plain_min_loop _, mnNone W h2.objs.size nb (by rw [hsz]; exact hz) st3 (Heap.get?_push_size _ rfl) fun h' tk q => ?_⟩
    exact h0 hz h' tk fun b o e => let ⟨a1, _, a3⟩ := old b o e; q b o a1 a3
  · refine wpAny_pure ⟨plainId_quiet F.plain_min_loop _, mnFirst W _ (CmpOf.ints_lt (numAt xs) (fun _ _ => intItems_at)) h2.objs.size nb (by rw [hsz]; omega) st3 (Heap.get?_push_size _ rfl) fun v h' tk pv q => ?_⟩
    refine h (by omega) v h' tk ?_ fun b o e => let ⟨a1, a2, a3⟩ := old b o e; q b o a1 a2 a3
    rw [hsz] at pv
    exact pv
end

section
variable {X : Cx}
/-- min(xs, default=d) of a list of ints -/
def rMinD (K : PySem.W.Frag) : V → V → Hp → VK → Prop := fun x d H Q => ∃ (a : Addr) (ns : List Int), x = .ref a ∧ SqL K H a (ns.map V.int) ∧ (ns = [] → Q d H) ∧ (∀ m, m ∈ ns → (∀ y, y ∈ ns → m ≤ y) → Q (.int m) H)
theorem min_dflt_ok (hc : X.calm = true) {pins : List (Addr × Obj)} {s : Shared} {σ : L2.St} {H : Hp} {x d : V} {u du : Value} {Q : VK} (I : Inv X pins σ H s) (rx : RelV x u) (rd : RelV d du) (h : rMinD X.K x d H Q) :
    wpAny (model X.prog X.w) X.A (call (.builtin "min") [u] [(Str.ofString "default", du)]) (EP X pins σ Q) X.xe s := by
  obtain ⟨a, ns, rfl, hs, q0, q⟩ := h
  cases rx
  obtain ⟨its, rv, hl, _⟩ := I.list hs
  have hi := rv.ints
  obtain ⟨xs, e⟩ := hi.allInts.items
  have hn : numsOf (intItems xs).toList = ns := by rw [← e]; exact hi.numsOf
  rw [nums_intItems] at hn
  subst hn
  have hl2 := hl.isList
  rw [e] at hl2
  refine min_dflt (I.ok.hd hc) hl2 (fun hz h' tk hk => ?_) fun hz v h' tk hv hk => ?_
  · exact ⟨d, H, I.kept hk, rd, q0 (by
      have : xs.toList.length = 0 := by rw [Array.length_toList]; exact hz
      rw [List.length_eq_zero_iff.mp this]; rfl)⟩
  · obtain ⟨t, rfl⟩ := intItems_at hv
    obtain ⟨h1, h2⟩ := argBest_lt (numAt xs) (xs.size - 1)
    refine ⟨.int _, H, I.kept hk, ⟨_, rfl⟩, q _ ?_ fun y hy => ?_⟩
    · rw [numAt_eq]; exact PySem.getD_mem (by rw [List.length_map, Array.length_toList]; omega)
    · obtain ⟨j, hj, rfl⟩ := mem_getD hy
      rw [List.length_map, Array.length_toList] at hj
      rw [← numAt_eq]; exact h2 j (by omega)
/-- the one value of a list of one -/
def tk1 (R : V → Hp → Prop) : List V → Hp → Prop := fun vs H => match vs with
  | [x] => R x H
  | _ => False
theorem tk1_of {R : V → Hp → Prop} {vs : List V} {us : List Value} {H : Hp} (r : Vals vs us) (h : tk1 R vs H) : ∃ x u, vs = [x] ∧ us = [u] ∧ RelV x u ∧ R x H := by
  match vs, r, h with
  | [x], r, h =>
    obtain ⟨u, e, ru⟩ := r.one
    exact ⟨x, u, rfl, e, ru, h⟩
theorem pe_minD {e value : Expr} {te tv : TE} {p pos kp : Pos} (hc : X.calm = true) (hg : Gl X "min") (hm : X.mg "min" = none) (he : PE X e te) (hv : PE X value tv)
    (hst : starEach [e] X.env = [(false, eval e X.env)] := by rfl) :
    PE X (.Call (.Name "min" p) [e] [⟨some "default", value, kp⟩] pos) (fun σ H Q => te σ H fun x H1 => tv σ H1 fun d H2 => rMinD X.K x d H2 Q) := by
  intro pins s σ H Q I h
  refine wpAny_Call_Name_kw (ld_blt I hg hm boot_min ?_)
  have ha : PA X [e] (tCons te tNil) := pa_cons he pa_nil hst
  have hk : PK X [⟨some "default", value, kp⟩] (tCons tv tNil) := pk_cons hv pk_nil
  refine callWith_kw (thn (ha pos pins s σ H (tk1 fun x H1 => tv σ H1 fun d H2 => rMinD X.K x d H2 Q) I h) fun us s1 ⟨vs, H1, I1, r1, q1⟩ => ?_) (by rw [hst]; rfl) (by rw [hst]; rfl)
  obtain ⟨x, u, rfl, rfl, rx, q1⟩ := tk1_of r1 q1
  refine thn (hk pos pins s1 σ H1 (tk1 fun d H2 => rMinD X.K x d H2 Q) I1 q1) fun ws s2 ⟨zs, H2, I2, r2, q2⟩ => ?_
  obtain ⟨d, du, rfl, rfl, rd, q2⟩ := tk1_of r2 q2
  exact min_dflt_ok hc I2 rx rd q2

/-! ### range(a, b) as a value, list(range) -/
def rRange2 : List V → Hp → VK → Prop := fun xs H Q => ∃ i j : Int, xs = [.int i, .int j] ∧ ∀ r, H r = none → Q (.ref r) (upd H r (.rng i j))
theorem cr_range2 : CallR X (.type "range") rRange2 := by
  intro pins s σ H xs us Q I r h
  obtain ⟨i, j, rfl, q⟩ := h
  obtain ⟨t, u, rfl⟩ := r.int2
  exact call_range_2 ⟨.ref s.heap.objs.size, _, I.laid (o := .rng i j) (fun b o e => Heap.get?_push_of_some _ e) (Nat.le_refl _) ⟨_, _, _, Heap.get?_push_size _ rfl⟩, rfl, q _ (I.hok.fresh (Nat.le_refl _))⟩
/-- lo, lo + 1, .. (n of them) -/
def upI (lo : Int) (n : Nat) : List Int := (List.range n).map fun (k : Nat) => lo + (k : Int)
theorem upI_len (lo : Int) (n : Nat) : (upI lo n).length = n := by unfold upI; rw [List.length_map, List.length_range]
theorem vals_up {lo : Int} {n : Nat} {acc : Array Value} (h : ItemsOf (fun i v => ∃ t, v = .int (lo + i * 1) t) acc n) : Vals ((upI lo n).map V.int) acc.toList := by
  have key : ∀ (m k : Nat) (l : List Value), l.length = m → (∀ (j : Nat) (v : Value), l[j]? = some v → ∃ t, v = Value.int (lo + ((k + j : Nat) : Int)) t) → Vals (((List.range' k m).map fun (k : Nat) => lo + (k : Int)).map V.int) l := by
    intro m
    induction m with
    | zero =>
      intro k l e _
      rw [List.length_eq_zero_iff.mp e]
      exact .nil
    | succ m ih =>
      intro k l e hl
      match l, e, hl with
      | v :: l, e, hl =>
        obtain ⟨t, rfl⟩ := hl 0 v rfl
        rw [List.range'_succ, List.map_cons, List.map_cons]
        refine .cons ⟨t, by simp⟩ (ih (k + 1) l (by simpa using e) fun j v hv => ?_)
        obtain ⟨t, e⟩ := hl (j + 1) v (by simpa using hv)
        exact ⟨t, by rw [e]; congr 2; omega⟩
  unfold upI
  rw [List.range_eq_range']
  refine key n 0 acc.toList (by rw [Array.length_toList]; exact h.1) fun j v hv => ?_
  obtain ⟨t, e⟩ := h.2 j v (by rw [← Array.getElem?_toList]; exact hv)
  exact ⟨t, by rw [e]; congr 2 <;> simp⟩
def rListR : List V → Hp → VK → Prop := fun xs H Q => ∃ (r : Addr) (lo hi : Int), xs = [.ref r] ∧ H r = some (.rng lo hi) ∧ (-(2 ^ 62) ≤ lo ∧ lo < 2 ^ 62 ∧ -(2 ^ 62) ≤ hi ∧ hi < 2 ^ 62) ∧ (hi - lo).toNat ≤ 1000 ∧
  ∀ l, H l = none → Q (.ref l) (upd H l (.lst ((upI lo (hi - lo).toNat).map V.int)))
theorem cr_listR (hc : X.calm = true) : CallR X (.type "list") rListR := by
  intro pins s σ H xs us Q I rr h
  obtain ⟨r, lo, hi, rfl, hr, ⟨h1, h2, h3, h4⟩, hz, q⟩ := h
  rw [Vals.ref1 rr]
  obtain ⟨t, u, v, e⟩ := I.hok r _ hr
  refine call_list_range (n := (hi - lo).toNat) (I.ok.hd hc) e (small_one h1 h2 h3 h4) (by rw [rangeSize_one]; split <;> omega) (by omega) fun h' tk acc c' hk he hi' => ?_
  refine ⟨.ref s.heap.objs.size, _, I.laid hk (Nat.le_refl _) (show ObjOk X.prog X.w _ h' _ (.lst ((upI lo (hi - lo).toNat).map V.int)) from ⟨?_, acc.toList, c', vals_up hi', by simpa using he⟩), rfl, q _ (I.hok.fresh (Nat.le_refl _))⟩
  rw [List.length_map, upI_len]
  exact Nat.le_of_lt (small1000 hz)

/-! ### a call of what an expression gives -/
theorem pe_callE {ι : Type} {CX : CXT} {k : Nat} {E : XK} {sp : ι → Sp} {FT : Addr → ι → Prop} {fe e : Expr} {es : List Expr} {tf : TE} {t : TA} {pos : Pos}
    (hF : ∀ f z, FT f z → ∃ fd ps, FnOk X.prog X.w X.K X.mg X.base CX k f fd ps (sp z) ∧ PySem.W.keepIn X.K (.ref f) = true ∧ Binds X.K fd ps []) (hr : Room k X.A) (hx : Passes CX X E) (hf : PE X fe tf) (ha : PA X (e :: es) t)
    (hev : eval (.Call fe (e :: es) [] pos) X.env = (do callWith pos (← eval fe X.env) [] (backTo pos (starEach (e :: es) X.env)) (backToKw pos (keywordEach [] X.env))) := by rfl)
    (he : starEach (e :: es) X.env = (false, eval e X.env) :: starEach es X.env := by rfl) (hpl : (backTo pos (starEach es X.env)).any (·.1) = false := by rfl) :
    PE X (.Call fe (e :: es) [] pos) (fun σ H Q => tf σ H fun x H1 => ∃ f z, x = .ref f ∧ FT f z ∧ t σ H1 fun vs H2 => sp z vs H2 Q E) := by
  intro pins s σ H Q I h
  refine Call_ (thn (hf pins s σ H _ I h) fun u s1 ⟨x, H1, I1, rx, f, z, ex, hft, q1⟩ => ?_) hev
  subst ex
  cases rx
  obtain ⟨fd, ps, F, hk, hb⟩ := hF f z hft
  refine PySem.W.callWith_K (h₀ := X.base) I1.ok.mod.kin hk (thn (ha pos pins s1 σ H1 _ I1 q1) fun us s2 ⟨vs, H2, I2, r, q⟩ => ⟨I2.kIn, ?_⟩) he hpl
  exact run_fn (dvs := []) (ds := []) F hr hb .nil hx I2 r (by rw [List.append_nil]; exact q)

/-! ### short forms; K by name, as a block's own K is the same -/
/-- x.f, x the name in the slot i -/
theorem pf {K : PySem.W.Frag} (i : Nat) {x f : Str} {p pos : Pos} (hK : X.K = K := by rfl) (hN : X.N[i]? = some x := by rfl) (hv : Vis X.env.scope x := by first | exact Or.inl rfl | exact Or.inr (Or.inl rfl) | exact Or.inr (Or.inr rfl)) (hd : (x == ("__debug__" : Str)) = false := by decide)
    (hcd : (x == ("__classdict__" : Str)) = false := by decide) (hb : attributeBase (.Name x p) f X.env (eval (.Name x p) X.env) = eval (.Name x p) X.env := by rfl) : PE X (.Attribute (.Name x p) f pos) (tFld K (tVar i) f) := by
  subst hK
  exact pe_fld (pv i hN hv hd hcd) hb
/-- e.f -/
theorem pfe {K : PySem.W.Frag} {e : Expr} {f : Str} {te : TE} {pos : Pos} (he : PE X e te) (hK : X.K = K := by rfl) (hb : attributeBase e f X.env (eval e X.env) = eval e X.env := by rfl) : PE X (.Attribute e f pos) (tFld K te f) := by
  subst hK
  exact pe_fld he hb
/-- a[b] of a list -/
theorem pxl {K : PySem.W.Frag} {a b : Expr} {ta tb : TE} {pos : Pos} (ha : PE X a ta) (hb : PE X b tb) (hK : X.K = K := by rfl) (hs : PlainIx b := by intro _ _; rfl) : PE X (.Subscript a b pos) (tOp (rIxL K) ta tb) := by
  subst hK
  exact pe_ix ix_list ha hb hs
/-- a[b] of a tuple -/
theorem pxt {K : PySem.W.Frag} {a b : Expr} {ta tb : TE} {pos : Pos} (ha : PE X a ta) (hb : PE X b tb) (hK : X.K = K := by rfl) (hs : PlainIx b := by intro _ _; rfl) : PE X (.Subscript a b pos) (tOp (rIxT K) ta tb) := by
  subst hK
  exact pe_ix ix_tup ha hb hs
/-- len(e) -/
def rLen (K : PySem.W.Frag) : List V → Hp → VK → Prop := fun xs H Q => ∃ p ys, xs = [.ref p] ∧ (SqL K H p ys ∨ SqT K H p ys) ∧ Q (.int ys.length) H
theorem plen {K : PySem.W.Frag} {e : Expr} {te : TE} {p pos : Pos} (hm : X.mg "len" = none) (he : PE X e te) (hK : X.K = K := by rfl) (hg : Gl X "len" := by rfl) (hs : starEach [e] X.env = [(false, eval e X.env)] := by rfl) :
    PE X (.Call (.Name "len" p) [e] [] pos) (tCB (rLen K) (tCons te tNil)) := by
  subst hK
  exact pe_callB call_len_seq hg hm PySem.boot_len (pa_cons he pa_nil hs) (by decide) (by decide) hs rfl
/-! ### a def of the text, ready to be called -/
structure Def (P : Program) (w : World) (K : PySem.W.Frag) (mg : Str → Option Value) (base : Heap) (k : Nat) (x : Str) (ps : List Str) (sp : Sp) : Prop where
  ex : ∃ f fd, FnOk P w K mg base CX0 k f fd ps sp ∧ mg x = some (.ref f) ∧ PySem.W.keepIn K (.ref f) = true ∧ Binds K fd ps []
/-- a def as it stands behind the top, under its name -/
structure TF (K : PySem.W.Frag) (mg : Str → Option Value) (x : Str) (st : Stmt) (f : Addr) : Prop where
  ex : ∃ fd, Fun K x x st f fd
  mg : mg x = some (.ref f)
theorem TF.def {P : Program} {w : World} {K : PySem.W.Frag} {mg : Str → Option Value} {base : Heap} {k : Nat} {x : Str} {st : Stmt} {f : Addr} {ps : List Str} {sp : Sp} (T : TF K mg x st f)
    (h : ∀ fd, Fun K x x st f fd → FnOk P w K mg base CX0 k f fd ps sp)
    (hb : ∀ (kV doc pm : Value) (an : Option Addr) (cdv ct : Value) (us : List Value), us.length = ps.length → bindArgs (PySem.W.fnOf x x (defArgs st) (defBody st) (defScope st) .none kV doc pm an cdv ct) ⟨us, []⟩ = pure (ps.zip us)) :
    Def P w K mg base k x ps sp := by
  obtain ⟨fd, F⟩ := T.ex
  exact ⟨f, fd, h fd F, T.mg, F.kp, F.binds hb⟩
theorem Def.mono {P : Program} {w : World} {K : PySem.W.Frag} {mg : Str → Option Value} {base : Heap} {j k : Nat} {x : Str} {ps : List Str} {sp : Sp} (D : Def P w K mg base j x ps sp) (h : j ≤ k) : Def P w K mg base k x ps sp := by
  obtain ⟨f, fd, F, r⟩ := D.ex
  exact ⟨f, fd, F.mono h, r⟩
def tCl (sp : Sp) (t : TA) : TE := fun σ H Q => t σ H fun vs H1 => sp vs H1 Q E0
theorem pe_cl {k : Nat} {x : Str} {ps : List Str} {sp : Sp} {e : Expr} {es : List Expr} {t : TA} {p pos : Pos} (D : Def X.prog X.w X.K X.mg X.base k x ps sp) (hr : Room k X.A) (ha : PA X (e :: es) t) (hg : Gl X x := by rfl)
    (hdb : (x == ("__debug__" : Str)) = false := by decide) (he : starEach (e :: es) X.env = (false, eval e X.env) :: starEach es X.env := by rfl) (hpl : (backTo pos (starEach es X.env)).any (·.1) = false := by rfl) :
    PE X (.Call (.Name x p) (e :: es) [] pos) (tCl sp t) := by
  obtain ⟨f, fd, F, hm, hk, hb⟩ := D.ex
  intro pins s σ H Q I h
  refine wpAny_Call_Name_kw (ld_glob I hg hm ?_ hdb)
  refine PySem.W.callWith_K (h₀ := X.base) I.ok.mod.kin hk (thn (ha pos pins s σ H _ I h) fun us s1 ⟨vs, H1, I1, r, q⟩ => ⟨I1.kIn, ?_⟩) he hpl
  exact run_fn (dvs := []) (ds := []) F hr hb .nil pass0 I1 r (by rw [List.append_nil]; exact q)
/-- a whole number of the module -/
def CI (mg : Str → Option Value) (x : Str) (i : Int) : Prop := ∃ t, mg x = some (.int i t)
theorem pe_ci {x : Str} {i : Int} {pos : Pos} (c : CI X.mg x i) (hg : Gl X x := by rfl) (hd : (x == ("__debug__" : Str)) = false := by decide) : PE X (.Name x pos) (tC (.int i)) := by
  obtain ⟨t, hm⟩ := c
  exact pe_glob hg hm ⟨t, rfl⟩ hd

/-! ### a dict of the module: whole numbers to functions -/
def MdE : List DictEntry → List (Int × Addr) → Prop
  | [], [] => True
  | e :: es, (k, f) :: tb => (∃ t, e.key = .int k t) ∧ e.hash = hashInt k ∧ e.val = .ref f ∧ MdE es tb
  | _, _ => False
structure MdD (K : PySem.W.Frag) (a : Addr) (tb : List (Int × Addr)) : Prop where
  ex : ∃ o es ep, K.lookup a = some o ∧ o.ExactDict ∧ o.data = .dict es ep ∧ MdE es.toList tb
  nd : (tb.map (·.1)).Nodup
theorem mdE_keys {P : Program} {w : World} : ∀ {es : List DictEntry} {tb : List (Int × Addr)}, MdE es tb → ∀ e ∈ es, ∃ k, (mixKind P w).is k e.key = true ∧ e.hash = (mixKind P w).hash k
  | [], _, _, e, he => nomatch he
  | e0 :: es, [], h, _, _ => (show False from h).elim
  | e0 :: es, (k, f) :: tb, h, e, he => by
    obtain ⟨⟨t, h1⟩, h2, h3, h4⟩ := h
    rcases List.mem_cons.mp he with q | q
    · subst q
      exact ⟨.inl k, by rw [h1]; exact mixKind_int P w k t, h2⟩
    · exact mdE_keys h4 e q
theorem mdE_pairs {P : Program} {w : World} : ∀ {es : List DictEntry} {tb : List (Int × Addr)}, MdE es tb → Pairs (mixKind P w) es (tb.map fun p => (Sum.inl p.1, Value.ref p.2))
  | [], [], _ => .nil
  | [], _ :: _, h => (show False from h).elim
  | _ :: _, [], h => (show False from h).elim
  | e :: es, (k, f) :: tb, h => by
    obtain ⟨⟨t, h1⟩, h2, h3, h4⟩ := h
    exact .cons (by rw [h1]; exact mixKind_int P w k t) h3 (mdE_pairs h4)
theorem mdD_dict {K : PySem.W.Frag} {a : Addr} {tb : List (Int × Addr)} (d : MdD K a tb) {P : Program} {w : World} {h : Heap} (kin : K.In h) : h.DictOf (mixKind P w) a (tb.map fun p => (Sum.inl p.1, Value.ref p.2)) := by
  obtain ⟨o, es, ep, e1, e2, e3, e4⟩ := d.ex
  refine ⟨o, es, ep, kin a o e1, e2, e3, fun e he => mdE_keys e4 e (by simpa using he), mdE_pairs e4, ?_⟩
  have q := d.nd
  rw [List.map_map]
  have key : ∀ l : List (Int × Addr), (l.map (·.1)).Nodup → (l.map ((fun x : Key × Value => x.1) ∘ fun p => (Sum.inl p.1, Value.ref p.2))).Nodup := by
    intro l
    induction l with
    | nil => intro _; exact List.nodup_nil
    | cons p l ih =>
      intro hn
      rw [List.map_cons] at hn ⊢
      obtain ⟨h1, h2⟩ := List.nodup_cons.mp hn
      refine List.nodup_cons.mpr ⟨fun m => h1 ?_, ih h2⟩
      obtain ⟨q, hq, e⟩ := List.mem_map.mp m
      refine List.mem_map.mpr ⟨q, hq, ?_⟩
      have e' : (Sum.inl q.1 : Key) = Sum.inl p.1 := e
      exact Sum.inl.inj e'
  exact key tb q
def tMd (K : PySem.W.Frag) (tb : List (Int × Addr)) (td ty : TE) : TE := fun σ H Q => td σ H fun x H1 => ty σ H1 fun y H2 => ∃ a k f, x = .ref a ∧ MdD K a tb ∧ y = .int k ∧ tb.lookup k = some f ∧ Q (.ref f) H2
theorem valueAt_lookup : ∀ (tb : List (Int × Addr)) (k : Int) (f : Addr), tb.lookup k = some f → valueAt (tb.map fun p => ((Sum.inl p.1 : Key), Value.ref p.2)) (Sum.inl k) = some (.ref f)
  | [], k, f, h => by simp at h
  | (k0, f0) :: tb, k, f, h => by
    unfold valueAt
    rw [List.map_cons, List.find?_cons]
    by_cases q : k0 = k
    · subst q
      simp [List.lookup] at h
      subst h
      simp
    · have q' : (k == k0) = false := beq_eq_false_iff_ne.mpr fun e => q e.symm
      simp only [List.lookup, q'] at h
      have z : decide ((Sum.inl k0 : Key) = Sum.inl k) = false := decide_eq_false fun e => q (Sum.inl.inj e)
      simp only [z]
      exact valueAt_lookup tb k f h
theorem pe_md {o i : Expr} {td ty : TE} {tb : List (Int × Addr)} {pos : Pos} (ho : PE X o td) (hi : PE X i ty) (hs : NoSl i) : PE X (.Subscript o i pos) (tMd X.K tb td ty) := by
  intro pins s σ H Q I h
  refine subD_of PySem.F.slot_dict_getitem.lookup hs (thn (ho pins s σ H _ I h) fun u s1 ⟨x, H1, I1, rx, q1⟩ => thn (hi pins s1 σ H1 _ I1 q1) fun iv s2 ⟨y, H2, I2, ry, a, k, f, ex, md, ey, l, q2⟩ => ?_)
  subst ex ey
  obtain rfl : u = Value.ref a := rx
  have dd := mdD_dict (P := X.prog) (w := X.w) md I2.kIn
  refine ⟨dd.typeIs, wpAny_getItem_of (kV_is (k := Sum.inl k) ry) dd.mapOf (valueAt_lookup tb k f l) ⟨.ref f, H2, I2.tok _, rfl, q2⟩⟩
end
end Ff


set_option Elab.async false
set_option linter.all false
set_option maxRecDepth 100000
set_option maxHeartbeats 2000000
namespace Ff
open PySem PySem.Spec PyProof.Rows L2
/-! ### the text by places -/
def top (i : Nat) : Stmt := PySem.Challenge.pw_faultfind_s01_answers.main.body.getD i (.Pass ⟨0, 0, 0, 0⟩)
abbrev sSecInit : Stmt := inClass (top 13) 0
abbrev sCabInit : Stmt := inClass (top 14) 0
abbrev sResistance : Stmt := top 15
abbrev sAllResistance : Stmt := top 16
abbrev sAhead : Stmt := top 17
abbrev sBehind : Stmt := top 18
abbrev sIsCost : Stmt := top 19
/-! ### data -/
def secF (s : Kp243.Section) : List (Str × V) := [("metres", .int s.metres), ("each", .int s.each), ("opens", .int s.opens)]
def SecAt (S : Addr) (H : Hp) (a : Addr) (s : Kp243.Section) : Prop := ∃ dx, H a = some (.ins S dx (secF s))
def cabF (b : Bool) (l : Addr) (lo hi op sp : Nat) : List (Str × V) := [("begun", .bl b), ("sections", .ref l), ("low", .int lo), ("high", .int hi), ("openings", .int op), ("spent", .int sp)]
/-- the list at l holds the sections ss, at as -/
structure SecsAt (S : Addr) (H : Hp) (l : Addr) (as : List Addr) (ss : List Kp243.Section) : Prop where
  lst : H l = some (.lst (as.map V.ref))
  len : as.length = ss.length
  at_ : ∀ (j : Nat) (a : Addr), as[j]? = some a → ∃ s, ss[j]? = some s ∧ SecAt S H a s
theorem SecAt.same {S : Addr} {H H' : Hp} {a : Addr} {s : Kp243.Section} (e : Same H H') (h : SecAt S H a s) : SecAt S H' a s := by
  obtain ⟨dx, h⟩ := h
  exact ⟨dx, e _ _ h⟩
theorem SecsAt.same {S : Addr} {H H' : Hp} {l : Addr} {as : List Addr} {ss : List Kp243.Section} (e : Same H H') (h : SecsAt S H l as ss) : SecsAt S H' l as ss :=
  ⟨e _ _ h.lst, h.len, fun j a q => let ⟨s, q1, q2⟩ := h.at_ j a q; ⟨s, q1, q2.same e⟩⟩
theorem same_upd {H : Hp} {a : Addr} {o : HO} (h : H a = Option.none) : Same H (upd H a o) := fun b u e => by
  rw [upd_ne (ne_of_none e h)]
  exact e
theorem ty1 {σ : L2.St} {H : Hp} {A B : Hp → Prop} (h : A H) : tYes σ H (fun b H3 => if b = true then A H3 else B H3) := by
  show (if true = true then A H else B H)
  rw [if_pos rfl]
  exact h
/-! ### what the text has -/
structure Txt (K : PySem.W.Frag) (mg : Str → Option Value) (S C : Addr) : Prop where
  clS : Cls K S
  clC : Cls K C
  naM : NoAttr K S "metres"
  naE : NoAttr K S "each"
  naO : NoAttr K S "opens"
  naB : NoAttr K C "begun"
  naS : NoAttr K C "sections"
  naL : NoAttr K C "low"
  naH : NoAttr K C "high"
  naN : NoAttr K C "openings"
  naP : NoAttr K C "spent"
  mgS : mg "Section" = some (.ref S)
  mgC : mg "Cable" = some (.ref C)
  mOpens : CI mg "MOST_OPENS" 1000
  bSum : mg "sum" = none
  bList : mg "list" = none
  bRange : mg "range" = none
  bLen : mg "len" = none
  bMin : mg "min" = none
  bMax : mg "max" = none
  mSections : CI mg "MOST_SECTIONS" 10
  mMetres : CI mg "MOST_METRES" 1000
  mEach : CI mg "MOST_EACH" 100
  mNoSuch : CI mg "NO_SUCH" (-2)
  mNotBegun : CI mg "NOT_BEGUN" (-11)
  mNotInAll : CI mg "NOT_IN_ALL" (-16)
  mOut : CI mg "OUT_OF_BOUNDS" (-22)
  mFull : CI mg "FULL" (-28)
  mNoAnswer : CI mg "NO_ANSWER" (-33)
  mBegin : CI mg "BEGIN" 0
/-! ### the promises -/
/-- a def that changes nothing and gives v -/
def spPure (pre : List V → Hp → V → Prop) : Sp := fun vs H Q _ => ∃ v, pre vs H v ∧ ∀ H', Same H H' → Q v H'
def spRes (S : Addr) : Sp := fun vs H Q _ => ∃ a s, vs = [.ref a] ∧ SecAt S H a s ∧ SecOk s ∧ Q (.int (res s : Nat)) H
section
variable {P : Program} {w : World} {K : PySem.W.Frag} {mg : Str → Option Value} {base : Heap} {S C : Addr}
theorem scRes : FnScope ["part"] ["part"] (defScope sResistance) := ⟨rfl, rfl, rfl, by decide +kernel, rfl, by decide +kernel, by decide +kernel⟩
theorem ok_resistance {f : Addr} {fd : FuncData} (T : Txt K mg S C) (F : Fun K "resistance" "resistance" sResistance f fd) : FnOk P w K mg base CX0 1 f fd ["part"] (spRes S) := by
  refine F.ok scRes (fun vs H Q E h => ?_) (fun cdv A outer s H vs Q E hr h => ?_)
  · obtain ⟨a, s, rfl, _⟩ := h
    rfl
  · obtain ⟨a, z, rfl, ⟨dx, ha⟩, so, k⟩ := h
    refine ⟨_, pss_one (ps_ret (pe_op op_mul (pe_fld (pv 0) rfl) (pe_fld (pv 0) rfl))), ?_⟩
    refine ⟨_, rfl, a, S, dx, _, _, rfl, ha, T.clS, T.naM, rfl, _, rfl, a, S, dx, _, _, rfl, ha, T.clS, T.naE, rfl, _, _, rfl, rfl, .inl ?_, ?_⟩
    · have := so.m2
      constructor <;> omega
    · exact k
theorem d_resistance {f : Addr} (T : Txt K mg S C) (F : TF K mg "resistance" sResistance f) : Def P w K mg base 1 "resistance" ["part"] (spRes S) :=
  F.def (fun _ => ok_resistance T) fun _ _ _ _ _ _ us hl => match us, hl with | [_], _ => rfl
def spAllRes (S : Addr) : Sp := fun vs H Q _ => ∃ l as ss, vs = [.ref l] ∧ SecsAt S H l as ss ∧ (∀ s ∈ ss, SecOk s) ∧ as.length ≤ 1000 ∧ ∀ H', Same H H' → Q (.int ((ss.map res).sum : Nat)) H'
theorem sum_nat : ∀ l : List Nat, (l.map fun (n : Nat) => (n : Int)).sum = ((l.sum : Nat) : Int)
  | [] => rfl
  | a :: l => by rw [List.map_cons, List.sum_cons, List.sum_cons, sum_nat l]; omega
theorem take_snoc {α : Type} : ∀ {l : List α} {i : Nat} {x : α}, l[i]? = some x → l.take (i + 1) = l.take i ++ [x] := fun {l i x} h => by
  rw [List.take_succ, h]
  all_goals rfl
theorem scAllRes : FnScope ["parts", "part"] ["parts"] (defScope sAllResistance) := ⟨rfl, rfl, rfl, by decide +kernel, rfl, by decide +kernel, by decide +kernel⟩
theorem ok_all_resistance {f : Addr} {fd : FuncData} (T : Txt K mg S C) (dR : Def P w K mg base 1 "resistance" ["part"] (spRes S)) (F : Fun K "all_resistance" "all_resistance" sAllResistance f fd) : FnOk P w K mg base CX0 2 f fd ["parts"] (spAllRes S) := by
  refine F.ok scAllRes (fun vs H Q E h => ?_) (fun cdv A outer s H vs Q E hr h => ?_)
  · obtain ⟨l, as, ss, rfl, _⟩ := h
    rfl
  · obtain ⟨l, as, ss, rfl, hl, so, hz, k⟩ := h
    refine ⟨_, pss_one (ps_ret (pe_callB (cr_sum rfl) (by rfl) T.bSum boot_sum (pa_cons (pe_lc rfl scAllRes.nd (pi_list (pv 0)) (blkOk_by (own := [("part", 1)]) (by rfl))
      (fun _ _ _ _ _ => pg_name (i := 1) scAllRes.nd rfl (Or.inl rfl)) (fun _ _ _ _ _ => pts_nil) (fun _ _ _ _ _ => pe_cl dR hr (pa_cons (pv 1) pa_nil))) pa_nil))), ?_⟩
    refine ⟨_, rfl, l, rfl, ⟨_, SqL.of hl.lst⟩, fun D hD => lc_list (K := K) (a := l) (xs := as.map V.ref) (fun i H' => H' D = some (.lst ((((ss.map res).take i).map fun (n : Nat) => (n : Int)).map V.int)) ∧ Same H H') ⟨upd_same, same_upd hD⟩
      (fun i H' _ ⟨_, e⟩ => SqL.of (e _ _ hl.lst)) ?_ ?_⟩
    · rintro i x H' hx ⟨hD', e⟩
      rw [List.getElem?_map] at hx
      cases ha : as[i]? with
      | none => rw [ha] at hx; cases hx
      | some a =>
        rw [ha] at hx
        obtain rfl := Option.some.inj hx
        obtain ⟨z, hz1, hz2⟩ := hl.at_ i a ha
        refine ⟨rfl, ty1 ?_⟩
        refine ⟨_, rfl, a, z, rfl, hz2.same e, so z (List.mem_of_getElem? hz1), _, hD', ?_, ?_, ?_⟩
        · rw [List.length_map, List.length_map, List.length_take]
          exact small1000 (by have := hl.len; rw [List.length_map]; omega)
        · rw [upd_same, take_snoc (x := res z) (by rw [List.getElem?_map, hz1]; rfl), List.map_append, List.map_append]
          rfl
        · intro b o q
          have hb : b ≠ D := ne_of_none q hD
          rw [upd_ne hb]
          exact e b o q
    · rintro H' ⟨hD', e⟩
      rw [List.length_map, hl.len, ← List.length_map (f := res), List.take_length] at hD'
      refine ⟨D, _, rfl, SqL.of hD', ?_⟩
      rw [sum_nat]
      exact k H' e
theorem d_all_resistance {f : Addr} (T : Txt K mg S C) (dR : Def P w K mg base 1 "resistance" ["part"] (spRes S)) (F : TF K mg "all_resistance" sAllResistance f) : Def P w K mg base 2 "all_resistance" ["parts"] (spAllRes S) :=
  F.def (fun _ => ok_all_resistance T dR) fun _ _ _ _ _ _ us hl => match us, hl with | [_], _ => rfl
/-! ### slices -/
theorem cut_take (xs : List V) (i : Nat) : cutV xs none (some (i : Int)) = xs.take i := by
  unfold cutV
  rw [HT.sIx_none, HT.sIx_nat, List.drop_zero, Nat.sub_zero]
  by_cases h : i ≤ xs.length
  · rw [show min i xs.length = i by omega]
  · rw [List.take_of_length_le (i := i) (by omega), List.take_of_length_le (by omega)]
theorem cut_drop (xs : List V) (i : Nat) : cutV xs (some (i : Int)) none = xs.drop i := by
  unfold cutV
  rw [HT.sIx_none, HT.sIx_nat]
  by_cases h : i ≤ xs.length
  · rw [show min i xs.length = i by omega, List.take_of_length_le (by rw [List.length_drop]; omega)]
  · rw [List.drop_eq_nil_of_le (i := i) (by omega), List.drop_eq_nil_of_le (by omega), List.take_nil]
theorem cut_both (xs : List V) (i j : Nat) (h : i ≤ j) : cutV xs (some (i : Int)) (some (j : Int)) = (xs.drop i).take (j - i) := by
  unfold cutV
  rw [HT.sIx_nat, HT.sIx_nat]
  by_cases h1 : i ≤ xs.length
  · rw [show min i xs.length = i by omega]
    by_cases h2 : j ≤ xs.length
    · rw [show min j xs.length = j by omega]
    · rw [List.take_of_length_le (i := min j xs.length - i) (by rw [List.length_drop]; omega), List.take_of_length_le (by rw [List.length_drop]; omega)]
  · rw [List.drop_eq_nil_of_le (i := i) (by omega), List.drop_eq_nil_of_le (by omega), List.take_nil, List.take_nil]
theorem SecsAt.take {H : Hp} {l p : Addr} {as : List Addr} {ss : List Kp243.Section} (h : SecsAt S H l as ss) (i : Nat) (hp : H p = Option.none) : SecsAt S (upd H p (.lst ((as.take i).map V.ref))) p (as.take i) (ss.take i) := by
  refine ⟨upd_same, by rw [List.length_take, List.length_take, h.len], fun j a q => ?_⟩
  rw [List.getElem?_take] at q
  by_cases hj : j < i
  · rw [if_pos hj] at q
    obtain ⟨s, q1, q2⟩ := h.at_ j a q
    exact ⟨s, by rw [List.getElem?_take, if_pos hj]; exact q1, q2.same (same_upd hp)⟩
  · rw [if_neg hj] at q
    cases q
theorem SecsAt.drop {H : Hp} {l p : Addr} {as : List Addr} {ss : List Kp243.Section} (h : SecsAt S H l as ss) (i : Nat) (hp : H p = Option.none) : SecsAt S (upd H p (.lst ((as.drop i).map V.ref))) p (as.drop i) (ss.drop i) := by
  refine ⟨upd_same, by rw [List.length_drop, List.length_drop, h.len], fun j a q => ?_⟩
  rw [List.getElem?_drop] at q
  obtain ⟨s, q1, q2⟩ := h.at_ (i + j) a q
  exact ⟨s, by rw [List.getElem?_drop]; exact q1, q2.same (same_upd hp)⟩
/-! ### the cable -/
structure CabAt (S C : Addr) (H : Hp) (cab l : Addr) (as : List Addr) (c : Kp243.Cable) : Prop where
  ins : ∃ dx, H cab = some (.ins C dx (cabF true l c.from_ c.to c.opened c.spent))
  secs : SecsAt S H l as c.sections
  nd : as.Nodup
theorem CabAt.same {H H' : Hp} {cab l : Addr} {as : List Addr} {c : Kp243.Cable} (e : Same H H') (h : CabAt S C H cab l as c) : CabAt S C H' cab l as c :=
  ⟨let ⟨dx, q⟩ := h.ins; ⟨dx, e _ _ q⟩, h.secs.same e, h.nd⟩
/-- a def that reads the cable, and whole numbers besides: it gives f c .. -/
def spRd1 (S C : Addr) (g : Kp243.Cable → Nat → V) : Sp := fun vs H Q _ => ∃ cab l as c i, vs = [.ref cab, .int (i : Nat)] ∧ CabAt S C H cab l as c ∧ Good c ∧ ∀ H', Same H H' → Q (g c i) H'
theorem Good.as10 {H : Hp} {cab l : Addr} {as : List Addr} {c : Kp243.Cable} (g : Good c) (h : CabAt S C H cab l as c) : as.length ≤ 10 := by
  rw [h.secs.len]; exact g.n10
theorem ress_take (c : Kp243.Cable) (i : Nat) : ((c.sections.take i).map res).sum = Kp243.ahead c i := by
  rw [ahead_sum]; unfold ress; rw [List.map_take]
theorem ress_drop (c : Kp243.Cable) (i : Nat) : ((c.sections.drop i).map res).sum = ((ress c).drop i).sum := by
  unfold ress; rw [List.map_drop]
def bhd (c : Kp243.Cable) (i : Nat) : Nat := ((ress c).drop (i + 1)).sum
theorem scAhead : FnScope ["cable", "i"] ["cable", "i"] (defScope sAhead) := ⟨rfl, rfl, rfl, by decide +kernel, rfl, by decide +kernel, by decide +kernel⟩
theorem ok_ahead {f : Addr} {fd : FuncData} (T : Txt K mg S C) (dA : Def P w K mg base 2 "all_resistance" ["parts"] (spAllRes S)) (F : Fun K "ahead" "ahead" sAhead f fd) : FnOk P w K mg base CX0 3 f fd ["cable", "i"] (spRd1 S C fun c i => .int (Kp243.ahead c i : Nat)) := by
  refine F.ok scAhead (fun vs H Q E h => ?_) (fun cdv A outer s H vs Q E hr h => ?_)
  · obtain ⟨cab, l, as, c, i, rfl, _⟩ := h
    rfl
  · obtain ⟨cab, l, as, c, i, rfl, hc, hg, k⟩ := h
    obtain ⟨dx, hx⟩ := hc.ins
    refine ⟨_, pss_one (ps_ret (pe_cl dA hr (pa_cons (pe_slice sl_list (pe_fld (pv 0) rfl) po_none (po_some (pv 1))) pa_nil))), ?_⟩
    refine ⟨_, rfl, cab, C, dx, _, _, rfl, hx, T.clC, T.naS, rfl, _, rfl, _, rfl, l, _, rfl, SqL.of hc.secs.lst, fun p hp => ?_⟩
    rw [cut_take, ← List.map_take]
    refine ⟨p, as.take i, c.sections.take i, rfl, hc.secs.take i hp, fun s hs => hg.sec s (List.mem_of_mem_take hs), ?_, fun H' e => ?_⟩
    · have := hg.as10 hc
      rw [List.length_take]; omega
    · rw [ress_take]
      exact k H' ((same_upd hp).trans e)
theorem scBehind : FnScope ["cable", "i"] ["cable", "i"] (defScope sBehind) := ⟨rfl, rfl, rfl, by decide +kernel, rfl, by decide +kernel, by decide +kernel⟩
theorem ok_behind {f : Addr} {fd : FuncData} (T : Txt K mg S C) (dA : Def P w K mg base 2 "all_resistance" ["parts"] (spAllRes S)) (F : Fun K "behind" "behind" sBehind f fd) : FnOk P w K mg base CX0 3 f fd ["cable", "i"] (spRd1 S C fun c i => .int (bhd c i : Nat)) := by
  refine F.ok scBehind (fun vs H Q E h => ?_) (fun cdv A outer s H vs Q E hr h => ?_)
  · obtain ⟨cab, l, as, c, i, rfl, _⟩ := h
    rfl
  · obtain ⟨cab, l, as, c, i, rfl, hc, hg, k⟩ := h
    obtain ⟨dx, hx⟩ := hc.ins
    refine ⟨_, pss_one (ps_ret (pe_cl dA hr (pa_cons (pe_slice sl_list (pe_fld (pv 0) rfl) (po_some (pe_op op_add (pv 1) pe_int)) po_none) pa_nil))), ?_⟩
    refine ⟨_, rfl, cab, C, dx, _, _, rfl, hx, T.clC, T.naS, rfl, _, rfl, _, _, rfl, rfl, _, rfl, l, _, rfl, SqL.of hc.secs.lst, fun p hp => ?_⟩
    rw [show (i : Int) + 1 = ((i + 1 : Nat) : Int) from rfl, cut_drop, ← List.map_drop]
    refine ⟨p, as.drop (i + 1), c.sections.drop (i + 1), rfl, hc.secs.drop (i + 1) hp, fun s hs => hg.sec s (List.mem_of_mem_drop hs), ?_, fun H' e => ?_⟩
    · have := hg.as10 hc
      rw [List.length_drop]; omega
    · rw [ress_drop]
      exact k H' ((same_upd hp).trans e)
end
end Ff


set_option Elab.async false
set_option linter.all false
set_option maxRecDepth 100000
set_option maxHeartbeats 2000000
namespace Ff
open PySem PySem.Spec PyProof.Rows L2
abbrev sFits : Stmt := top 24
abbrev sMayBe : Stmt := top 25
abbrev sLeftM : Stmt := top 26
abbrev sLeftO : Stmt := top 27
abbrev sNarrow : Stmt := top 28
def nI (l : List Nat) : List Int := l.map fun (n : Nat) => (n : Int)
def nV (l : List Nat) : List V := (nI l).map V.int
theorem nV_len (l : List Nat) : (nV l).length = l.length := by unfold nV nI; rw [List.length_map, List.length_map]
theorem nV_at {l : List Nat} {i : Nat} {x : V} (h : (nV l)[i]? = some x) : ∃ n, l[i]? = some n ∧ x = .int (n : Nat) := by
  unfold nV nI at h
  rw [List.getElem?_map, List.getElem?_map] at h
  cases e : l[i]? with
  | none => rw [e] at h; cases h
  | some n => rw [e] at h; exact ⟨n, rfl, (Option.some.inj h).symm⟩
theorem nV_get {l : List Nat} {i n : Nat} (h : l[i]? = some n) : (nV l)[i]? = some (.int (n : Nat)) := by
  unfold nV nI
  rw [List.getElem?_map, List.getElem?_map, h]; rfl
theorem nV_app (l m : List Nat) : nV (l ++ m) = nV l ++ nV m := by unfold nV nI; rw [List.map_append, List.map_append]
theorem up_nV (a n : Nat) : (upI (a : Int) n).map V.int = nV (List.range' a n) := by
  unfold upI nV nI
  rw [List.range'_eq_map_range, List.map_map, List.map_map, List.map_map]
  refine List.map_congr_left fun k _ => ?_
  show V.int ((a : Int) + (k : Int)) = V.int ((a + k : Nat) : Int)
  rfl
section
variable {P : Program} {w : World} {K : PySem.W.Frag} {mg : Str → Option Value} {base : Heap} {S C : Addr}
def isCost (o : Int) : Bool := decide (1 ≤ o) && decide (o ≤ 1000)
def spIsCost : Sp := fun vs H Q _ => ∃ o, vs = [.int o] ∧ Q (.bl (isCost o)) H
theorem scIsCost : FnScope ["opens"] ["opens"] (defScope sIsCost) := ⟨rfl, rfl, rfl, by decide +kernel, rfl, by decide +kernel, by decide +kernel⟩
theorem ok_is_cost {f : Addr} {fd : FuncData} (T : Txt K mg S C) (F : Fun K "is_cost" "is_cost" sIsCost f fd) : FnOk P w K mg base CX0 1 f fd ["opens"] spIsCost := by
  refine F.ok scIsCost (fun vs H Q E h => ?_) (fun cdv A outer s H vs Q E hr h => ?_)
  · obtain ⟨o, rfl, _⟩ := h
    rfl
  · obtain ⟨o, rfl, k⟩ := h
    refine ⟨_, pss_one (ps_ret (pe_and (pe_cmpR op_le pe_int (pv 0) (nomark _)) (pe_one (pe_cmpR op_le (pv 0) (pe_ci T.mOpens) (nomark _))))), ?_⟩
    refine ⟨_, rfl, _, _, rfl, rfl, _, rfl, ite2 (fun h1 => ⟨_, rfl, _, _, rfl, rfl, ?_⟩) fun h1 => ?_⟩
    · unfold isCost at k
      rw [h1] at k
      exact k
    · unfold isCost at k
      rw [Bool.eq_false_iff.mpr h1] at k
      exact k
theorem d_is_cost {f : Addr} (T : Txt K mg S C) (F : TF K mg "is_cost" sIsCost f) : Def P w K mg base 1 "is_cost" ["opens"] spIsCost :=
  F.def (fun _ => ok_is_cost T) fun _ _ _ _ _ _ us hl => match us, hl with | [_], _ => rfl
def spFits : Sp := fun vs H Q _ => ∃ n o lo hi : Nat, vs = nV [n, o, lo, hi] ∧ Q (.bl (decide (n ≤ hi) && decide (lo ≤ n + o))) H
theorem scFits : FnScope ["nearer", "own", "lo", "hi"] ["nearer", "own", "lo", "hi"] (defScope sFits) := ⟨rfl, rfl, rfl, by decide +kernel, rfl, by decide +kernel, by decide +kernel⟩
theorem dec_le (a b : Nat) : decide ((a : Int) ≤ (b : Int)) = decide (a ≤ b) := by
  by_cases h : a ≤ b
  · rw [decide_eq_true h, decide_eq_true (by omega)]
  · rw [decide_eq_false h, decide_eq_false (by omega)]
theorem ok_fits {f : Addr} {fd : FuncData} (F : Fun K "fits" "fits" sFits f fd) : FnOk P w K mg base CX0 1 f fd ["nearer", "own", "lo", "hi"] spFits := by
  refine F.ok scFits (fun vs H Q E h => ?_) (fun cdv A outer s H vs Q E hr h => ?_)
  · obtain ⟨n, o, lo, hi, rfl, _⟩ := h
    rfl
  · obtain ⟨n, o, lo, hi, rfl, k⟩ := h
    refine ⟨_, pss_one (ps_ret (pe_and (pe_cmpR op_le (pv 0) (pv 3) (nomark _)) (pe_one (pe_cmpR op_ge (pe_op op_add (pv 0) (pv 1)) (pv 2) (nomark _))))), ?_⟩
    refine ⟨_, rfl, _, rfl, _, _, rfl, rfl, _, rfl, ite2 (fun h1 => ⟨_, rfl, _, rfl, _, _, rfl, rfl, _, rfl, _, _, rfl, rfl, ?_⟩) fun h1 => ?_⟩
    · rw [dec_le] at h1
      rw [h1] at k
      show Q (.bl (decide ((lo : Int) ≤ ((n + o : Nat) : Int)))) H
      rw [dec_le]
      exact k
    · rw [dec_le] at h1
      rw [Bool.eq_false_iff.mpr h1] at k
      exact k
theorem d_fits {f : Addr} (F : TF K mg "fits" sFits f) : Def P w K mg base 1 "fits" ["nearer", "own", "lo", "hi"] spFits :=
  F.def (fun _ => ok_fits) fun _ _ _ _ _ _ us hl => match us, hl with | [_, _, _, _], _ => rfl
/-- may_be: a new list of the sections in which it may be -/
def spMayBe (S C : Addr) : Sp := fun vs H Q _ => ∃ cab l as c, vs = [.ref cab] ∧ CabAt S C H cab l as c ∧ Good c ∧ ∀ H' q, Same H H' → H q = none → H' q = some (.lst (nV (Kp243.now c))) → Q (.ref q) H'
theorem scMayBe : FnScope ["cable"] ["cable"] (defScope sMayBe) := ⟨rfl, rfl, rfl, by decide +kernel, rfl, by decide +kernel, by decide +kernel⟩
theorem ok_may_be {f : Addr} {fd : FuncData} (T : Txt K mg S C) (F : Fun K "may_be" "may_be" sMayBe f fd) : FnOk P w K mg base CX0 1 f fd ["cable"] (spMayBe S C) := by
  refine F.ok scMayBe (fun vs H Q E h => ?_) (fun cdv A outer s H vs Q E hr h => ?_)
  · obtain ⟨cab, l, as, c, rfl, _⟩ := h
    rfl
  · obtain ⟨cab, l, as, c, rfl, hc, hg, k⟩ := h
    obtain ⟨dx, hx⟩ := hc.ins
    have h1 := hg.ft
    have h2 := hg.tn
    have h3 := hg.n10
    refine ⟨_, pss_one (ps_ret (pe_callTy (cr_listR rfl) (by rfl) T.bList boot_list (pa_cons (pe_callTy cr_range2 (by rfl) T.bRange boot_range (pa_cons (pe_fld (pv 0) rfl) (pa_cons (pe_fld (pv 0) rfl) pa_nil))) pa_nil))), ?_⟩
    refine ⟨_, rfl, cab, C, dx, _, _, rfl, hx, T.clC, T.naL, rfl, _, rfl, cab, C, dx, _, _, rfl, hx, T.clC, T.naH, rfl, _, _, rfl, fun r hr => ?_⟩
    refine ⟨r, _, _, rfl, upd_same, ⟨by omega, by omega, by omega, by omega⟩, by omega, fun q hq => ?_⟩
    have e1 : Same H (upd H r (.rng (c.from_ : Nat) (c.to : Nat))) := same_upd hr
    refine k _ q (e1.trans (same_upd hq)) (e1.free hq) ?_
    rw [upd_same, now_run c h1 h2, ← up_nV]
    have e2 : ((c.to : Int) - (c.from_ : Int)).toNat = c.to - c.from_ := by omega
    rw [e2]
theorem d_may_be {f : Addr} (T : Txt K mg S C) (F : TF K mg "may_be" sMayBe f) : Def P w K mg base 1 "may_be" ["cable"] (spMayBe S C) :=
  F.def (fun _ => ok_may_be T) fun _ _ _ _ _ _ us hl => match us, hl with | [_], _ => rfl
/-! ### what a measurement leaves -/
theorem filter_snoc {α : Type} {p : α → Bool} {l : List α} {i : Nat} {x : α} (h : l[i]? = some x) : (l.take (i + 1)).filter p = if p x = true then (l.take i).filter p ++ [x] else (l.take i).filter p := by
  rw [take_snoc h, List.filter_append, List.filter_cons, List.filter_nil]
  by_cases q : p x = true
  · rw [if_pos q, if_pos q]
  · rw [if_neg q, if_neg q, List.append_nil]
def spLeft (S C : Addr) (p : Kp243.Cable → Nat → Nat → Nat → Bool) : Sp := fun vs H Q _ => ∃ cab l as c lo hi, vs = [.ref cab, .int (lo : Nat), .int (hi : Nat)] ∧ CabAt S C H cab l as c ∧ Good c ∧
  ∀ H' q, Same H H' → H q = none → H' q = some (.lst (nV ((Kp243.now c).filter (p c lo hi)))) → Q (.ref q) H'
theorem now_lt {c : Kp243.Cable} (g : Good c) {j i : Nat} (h : (Kp243.now c)[j]? = some i) : i < Kp243.size c := by
  have m := List.mem_of_getElem? h
  rw [now_run c g.ft g.tn, List.mem_range'_1] at m
  have := g.tn
  have := g.ft
  omega
theorem now_len {c : Kp243.Cable} (g : Good c) : (Kp243.now c).length ≤ 10 := by
  rw [now_run c g.ft g.tn, List.length_range']
  have := g.tn
  have := g.n10
  omega
theorem CabAt.sec {H : Hp} {cab l : Addr} {as : List Addr} {c : Kp243.Cable} (h : CabAt S C H cab l as c) {i : Nat} (hi : i < Kp243.size c) : ∃ a, as[i]? = some a ∧ SecAt S H a (Kp243.at_ c i) ∧ c.sections[i]? = some (Kp243.at_ c i) := by
  have hl : i < as.length := by rw [h.secs.len]; exact hi
  obtain ⟨s, q1, q2⟩ := h.secs.at_ i as[i] (List.getElem?_eq_getElem hl)
  have e : Kp243.at_ c i = s := by unfold Kp243.at_; rw [List.getD_eq_getElem?_getD, q1]; rfl
  rw [e]
  exact ⟨as[i], List.getElem?_eq_getElem hl, q2, q1⟩
theorem Good.at {c : Kp243.Cable} (g : Good c) {i : Nat} (hi : i < Kp243.size c) : SecOk (Kp243.at_ c i) := by
  have e : c.sections[i]? = some c.sections[i] := List.getElem?_eq_getElem hi
  have e2 : Kp243.at_ c i = c.sections[i] := by unfold Kp243.at_; rw [List.getD_eq_getElem?_getD, e]; rfl
  rw [e2]
  exact g.sec _ (List.getElem_mem hi)
theorem scLeftM : FnScope ["cable", "lo", "hi", "i"] ["cable", "lo", "hi"] (defScope sLeftM) := ⟨rfl, rfl, rfl, by decide +kernel, rfl, by decide +kernel, by decide +kernel⟩
theorem ok_left_m {f : Addr} {fd : FuncData} (T : Txt K mg S C) (dM : Def P w K mg base 1 "may_be" ["cable"] (spMayBe S C)) (dF : Def P w K mg base 1 "fits" ["nearer", "own", "lo", "hi"] spFits)
    (dA : Def P w K mg base 3 "ahead" ["cable", "i"] (spRd1 S C fun c i => .int (Kp243.ahead c i : Nat))) (dR : Def P w K mg base 1 "resistance" ["part"] (spRes S))
    (F : Fun K "left_by_measure" "left_by_measure" sLeftM f fd) : FnOk P w K mg base CX0 4 f fd ["cable", "lo", "hi"] (spLeft S C Kp243.mayA) := by
  refine F.ok scLeftM (fun vs H Q E h => ?_) (fun cdv A outer s H vs Q E hr h => ?_)
  · obtain ⟨cab, l, as, c, lo, hi, rfl, _⟩ := h
    rfl
  · obtain ⟨cab, l, as, c, lo, hi, rfl, hc, hg, k⟩ := h
    have hr1 : Room 1 _ := hr.mono (by decide)
    refine ⟨_, pss_one (ps_ret (pe_lc rfl scLeftM.nd (pi_list (pe_cl dM hr1 (pa_cons (pv 0) pa_nil))) (blkOk_by (own := [("i", 3)]) (by rfl))
      (fun _ _ _ _ _ => pg_name (i := 3) scLeftM.nd rfl (Or.inl rfl))
      (fun _ _ _ _ _ => pts_one (pt_val (pe_cl dF hr1 (pa_cons (pe_cl dA hr (pa_cons (pv 0) (pa_cons (pv 3) pa_nil))) (pa_cons (pe_cl dR hr1 (pa_cons (pxl (K := K) (pf (K := K) 0) (pv 3)) pa_nil)) (pa_cons (pv 1) (pa_cons (pv 2) pa_nil)))))))
      (fun _ _ _ _ _ => pv 3))), ?_⟩
    refine ⟨_, rfl, cab, l, as, c, rfl, hc, hg, fun H1 q1 e1 hq1 hl1 => ?_⟩
    refine ⟨q1, rfl, ⟨_, SqL.of hl1⟩, fun D hD => lc_list (K := K) (a := q1) (xs := nV (Kp243.now c)) (fun i H' => H' D = some (.lst (nV (((Kp243.now c).take i).filter (Kp243.mayA c lo hi)))) ∧ Same H1 H') ⟨upd_same, same_upd hD⟩
      (fun i H' _ ⟨_, e⟩ => SqL.of (e _ _ hl1)) ?_ ?_⟩
    · rintro j x H' hx ⟨hD', e⟩
      obtain ⟨i, hi', rfl⟩ := nV_at hx
      have hlt := now_lt hg hi'
      refine ⟨rfl, ?_⟩
      refine ⟨_, rfl, _, rfl, cab, l, as, c, i, rfl, hc.same (e1.trans e), hg, fun H2 e2 => ?_⟩
      have e12 := e.trans e2
      obtain ⟨dx, hx2⟩ := (hc.same (e1.trans e12)).ins
      obtain ⟨a, ha, hs, _⟩ := (hc.same (e1.trans e12)).sec hlt
      refine ⟨_, rfl, cab, C, dx, _, _, rfl, hx2, T.clC, T.naS, rfl, _, rfl, l, _, _, _, rfl, rfl, SqL.of (hc.same (e1.trans e12)).secs.lst, atI_nat (v := V.ref a) (by rw [List.getElem?_map, ha]; rfl), a, _, rfl, hs, hg.at hlt, ?_⟩
      refine ⟨_, rfl, _, rfl, Kp243.ahead c i, res (Kp243.at_ c i), lo, hi, rfl, _, rfl, ?_⟩
      have hm : Kp243.mayA c lo hi i = (decide (Kp243.ahead c i ≤ hi) && decide (lo ≤ Kp243.ahead c i + res (Kp243.at_ c i))) := mayA_eq c lo hi i
      rw [← hm]
      have hf := filter_snoc (p := Kp243.mayA c lo hi) hi'
      refine ite2 (fun hp => ?_) fun hp => ?_
      · refine ⟨_, rfl, _, e2 _ _ hD', ?_, ?_, ?_⟩
        · rw [nV_len]
          exact small1000 (Nat.le_trans (List.length_filter_le _ _) (by rw [List.length_take]; have := now_len hg; omega))
        · rw [upd_same, hf, if_pos hp, nV_app]
          rfl
        · intro b o q
          have hb : b ≠ D := ne_of_none q hD
          rw [upd_ne hb]
          exact e12 b o q
      · refine ⟨?_, e12⟩
        rw [hf, if_neg hp]
        exact e2 _ _ hD'
    · rintro H' ⟨hD', e⟩
      rw [nV_len, List.take_length] at hD'
      exact k H' D (e1.trans e) (e1.free hD) hD'
theorem scLeftO : FnScope ["cable", "lo", "hi", "i"] ["cable", "lo", "hi"] (defScope sLeftO) := ⟨rfl, rfl, rfl, by decide +kernel, rfl, by decide +kernel, by decide +kernel⟩
theorem ok_left_o {f : Addr} {fd : FuncData} (T : Txt K mg S C) (dM : Def P w K mg base 1 "may_be" ["cable"] (spMayBe S C)) (dF : Def P w K mg base 1 "fits" ["nearer", "own", "lo", "hi"] spFits)
    (dA : Def P w K mg base 3 "behind" ["cable", "i"] (spRd1 S C fun c i => .int (bhd c i : Nat))) (dR : Def P w K mg base 1 "resistance" ["part"] (spRes S))
    (F : Fun K "left_by_other" "left_by_other" sLeftO f fd) : FnOk P w K mg base CX0 4 f fd ["cable", "lo", "hi"] (spLeft S C Kp243.mayB) := by
  refine F.ok scLeftO (fun vs H Q E h => ?_) (fun cdv A outer s H vs Q E hr h => ?_)
  · obtain ⟨cab, l, as, c, lo, hi, rfl, _⟩ := h
    rfl
  · obtain ⟨cab, l, as, c, lo, hi, rfl, hc, hg, k⟩ := h
    have hr1 : Room 1 _ := hr.mono (by decide)
    refine ⟨_, pss_one (ps_ret (pe_lc rfl scLeftO.nd (pi_list (pe_cl dM hr1 (pa_cons (pv 0) pa_nil))) (blkOk_by (own := [("i", 3)]) (by rfl))
      (fun _ _ _ _ _ => pg_name (i := 3) scLeftO.nd rfl (Or.inl rfl))
      (fun _ _ _ _ _ => pts_one (pt_val (pe_cl dF hr1 (pa_cons (pe_cl dA hr (pa_cons (pv 0) (pa_cons (pv 3) pa_nil))) (pa_cons (pe_cl dR hr1 (pa_cons (pxl (K := K) (pf (K := K) 0) (pv 3)) pa_nil)) (pa_cons (pv 1) (pa_cons (pv 2) pa_nil)))))))
      (fun _ _ _ _ _ => pv 3))), ?_⟩
    refine ⟨_, rfl, cab, l, as, c, rfl, hc, hg, fun H1 q1 e1 hq1 hl1 => ?_⟩
    refine ⟨q1, rfl, ⟨_, SqL.of hl1⟩, fun D hD => lc_list (K := K) (a := q1) (xs := nV (Kp243.now c)) (fun i H' => H' D = some (.lst (nV (((Kp243.now c).take i).filter (Kp243.mayB c lo hi)))) ∧ Same H1 H') ⟨upd_same, same_upd hD⟩
      (fun i H' _ ⟨_, e⟩ => SqL.of (e _ _ hl1)) ?_ ?_⟩
    · rintro j x H' hx ⟨hD', e⟩
      obtain ⟨i, hi', rfl⟩ := nV_at hx
      have hlt := now_lt hg hi'
      refine ⟨rfl, ?_⟩
      refine ⟨_, rfl, _, rfl, cab, l, as, c, i, rfl, hc.same (e1.trans e), hg, fun H2 e2 => ?_⟩
      have e12 := e.trans e2
      obtain ⟨dx, hx2⟩ := (hc.same (e1.trans e12)).ins
      obtain ⟨a, ha, hs, _⟩ := (hc.same (e1.trans e12)).sec hlt
      refine ⟨_, rfl, cab, C, dx, _, _, rfl, hx2, T.clC, T.naS, rfl, _, rfl, l, _, _, _, rfl, rfl, SqL.of (hc.same (e1.trans e12)).secs.lst, atI_nat (v := V.ref a) (by rw [List.getElem?_map, ha]; rfl), a, _, rfl, hs, hg.at hlt, ?_⟩
      refine ⟨_, rfl, _, rfl, bhd c i, res (Kp243.at_ c i), lo, hi, rfl, _, rfl, ?_⟩
      have hm : Kp243.mayB c lo hi i = (decide (bhd c i ≤ hi) && decide (lo ≤ bhd c i + res (Kp243.at_ c i))) := mayB_eq c lo hi i
      rw [← hm]
      have hf := filter_snoc (p := Kp243.mayB c lo hi) hi'
      refine ite2 (fun hp => ?_) fun hp => ?_
      · refine ⟨_, rfl, _, e2 _ _ hD', ?_, ?_, ?_⟩
        · rw [nV_len]
          exact small1000 (Nat.le_trans (List.length_filter_le _ _) (by rw [List.length_take]; have := now_len hg; omega))
        · rw [upd_same, hf, if_pos hp, nV_app]
          rfl
        · intro b o q
          have hb : b ≠ D := ne_of_none q hD
          rw [upd_ne hb]
          exact e12 b o q
      · refine ⟨?_, e12⟩
        rw [hf, if_neg hp]
        exact e2 _ _ hD'
    · rintro H' ⟨hD', e⟩
      rw [nV_len, List.take_length] at hD'
      exact k H' D (e1.trans e) (e1.free hD) hD'
theorem d_left_m {f : Addr} (T : Txt K mg S C) (dM : Def P w K mg base 1 "may_be" ["cable"] (spMayBe S C)) (dF : Def P w K mg base 1 "fits" ["nearer", "own", "lo", "hi"] spFits)
    (dA : Def P w K mg base 3 "ahead" ["cable", "i"] (spRd1 S C fun c i => .int (Kp243.ahead c i : Nat))) (dR : Def P w K mg base 1 "resistance" ["part"] (spRes S)) (F : TF K mg "left_by_measure" sLeftM f) :
    Def P w K mg base 4 "left_by_measure" ["cable", "lo", "hi"] (spLeft S C Kp243.mayA) :=
  F.def (fun _ => ok_left_m T dM dF dA dR) fun _ _ _ _ _ _ us hl => match us, hl with | [_, _, _], _ => rfl
theorem d_left_o {f : Addr} (T : Txt K mg S C) (dM : Def P w K mg base 1 "may_be" ["cable"] (spMayBe S C)) (dF : Def P w K mg base 1 "fits" ["nearer", "own", "lo", "hi"] spFits)
    (dA : Def P w K mg base 3 "behind" ["cable", "i"] (spRd1 S C fun c i => .int (bhd c i : Nat))) (dR : Def P w K mg base 1 "resistance" ["part"] (spRes S)) (F : TF K mg "left_by_other" sLeftO f) :
    Def P w K mg base 4 "left_by_other" ["cable", "lo", "hi"] (spLeft S C Kp243.mayB) :=
  F.def (fun _ => ok_left_o T dM dF dA dR) fun _ _ _ _ _ _ us hl => match us, hl with | [_, _, _], _ => rfl
end
end Ff


set_option Elab.async false
set_option linter.all false
set_option maxRecDepth 100000
set_option maxHeartbeats 2000000
/-! The cheapest way, as the program reckons it: a table by spans. -/
namespace Ff
open PySem PySem.Spec PyProof.Rows L2
abbrev sCosts : Stmt := top 37
abbrev sBest : Stmt := top 38
def ky (a b : Nat) : List Key := [Sum.inl (a : Int), Sum.inl (b : Int)]
theorem ky_inj {a b c d : Nat} (h : ky a b = ky c d) : a = c ∧ b = d := by
  unfold ky at h
  injection h with h1 h2
  injection h2 with h2 _
  have e1 := Sum.inl.inj h1
  have e2 := Sum.inl.inj h2
  omega
/-- the table holds the span from a to b -/
def Has (kvs : List (List Key × V)) (pr : List Nat) (a b : Nat) : Prop := valV kvs (ky a b) = some (.int (Wst pr a b : Nat))
section
variable {P : Program} {w : World} {K : PySem.W.Frag} {mg : Str → Option Value} {base : Heap} {S C : Addr}
def spCosts : Sp := fun vs H Q _ => ∃ d p kvs pr lo hi, vs = [.ref d, .ref p, .int (lo : Nat), .int (hi : Nat)] ∧ H d = some (.dT kvs) ∧ H p = some (.lst (nV pr)) ∧ lo ≤ hi ∧ hi ≤ pr.length ∧ pr.length ≤ 1000 ∧
  (∀ a b, lo ≤ a → a ≤ b → b ≤ hi → b - a < hi - lo → Has kvs pr a b) ∧ ∀ H' q, Same H H' → H q = none → H' q = some (.lst (nV (costsW pr lo hi))) → Q (.ref q) H'
theorem scCosts : FnScope ["best", "prices", "low", "high", "i"] ["best", "prices", "low", "high"] (defScope sCosts) := ⟨rfl, rfl, rfl, by decide +kernel, rfl, by decide +kernel, by decide +kernel⟩
theorem max_int (a b : Nat) : (if (b : Int) > (a : Int) then (b : Int) else (a : Int)) = ((max a b : Nat) : Int) := by
  by_cases h : b > a
  · rw [if_pos (by omega)]; omega
  · rw [if_neg (by omega)]; omega
theorem ok_costs {f : Addr} {fd : FuncData} (T : Txt K mg S C) (F : Fun K "costs_by_first" "costs_by_first" sCosts f fd) : FnOk P w K mg base CX0 1 f fd ["best", "prices", "low", "high"] spCosts := by
  refine F.ok scCosts (fun vs H Q E h => ?_) (fun cdv A outer s H vs Q E hr h => ?_)
  · obtain ⟨d, p, kvs, pr, lo, hi, rfl, _⟩ := h
    rfl
  · obtain ⟨d, p, kvs, pr, lo, hi, rfl, hd, hp, hlh, hh, hz, has, k⟩ := h
    have hu := hu_of hr
    refine ⟨_, pss_one (ps_ret (pe_lc rfl scCosts.nd (pi_range2 (by rfl) T.bRange (pa_cons (pv 2) (pa_cons (pe_op op_sub (pv 3) pe_int) pa_nil))) (blkOk_by (own := [("i", 4)]) (by rfl))
      (fun _ _ _ _ _ => pg_name (i := 4) scCosts.nd rfl (Or.inl rfl)) (fun _ _ _ _ _ => pts_nil)
      (fun _ _ _ _ _ => pe_op op_add (pxl (K := K) (pv 1) (pv 4)) (pe_callB (call_max2 rfl) (by rfl) T.bMax boot_max
        (pa_cons (pe_dget hu (pv 0) (pe_tup (pa_cons (pv 2) (pa_cons (pe_op op_add (pv 4) pe_int) pa_nil))) (fun _ _ => rfl))
          (pa_cons (pe_dget hu (pv 0) (pe_tup (pa_cons (pe_op op_add (pv 4) pe_int) (pa_cons (pv 3) pa_nil))) (fun _ _ => rfl)) pa_nil)))))), ?_⟩
    refine ⟨_, rfl, _, rfl, _, _, rfl, rfl, _, _, rfl, ⟨by omega, by omega, by omega, by omega⟩, fun D hD => ?_⟩
    have en : ((hi : Int) - 1 - (lo : Int)).toNat = hi - lo - 1 := by omega
    rw [en]
    refine lc_range (fun i H' => H' D = some (.lst (nV ((costsW pr lo hi).take i))) ∧ Same H H') ⟨upd_same, same_upd hD⟩ ?_ ?_
    · rintro i H' hi' ⟨hD', e⟩
      refine ⟨rfl, ty1 ?_⟩
      have hlt : lo + i < pr.length := by omega
      refine ⟨_, rfl, _, rfl, p, _, _, _, rfl, rfl, SqL.of (e _ _ hp), at_of (j := lo + i) rfl (nV_get (List.getElem?_eq_getElem hlt)), ?_⟩
      refine ⟨_, rfl, _, rfl, _, rfl, _, _, rfl, rfl, by show 2 ≤ sizeLine; decide, fun t1 ht1 => ?_⟩
      have h1 : Has kvs pr lo (lo + i + 1) := has lo (lo + i + 1) (by omega) (by omega) (by omega) (by omega)
      have h2 : Has kvs pr (lo + i + 1) hi := has (lo + i + 1) hi (by omega) (by omega) (by omega) (by omega)
      have e1 : Same H' (upd H' t1 (.tup [.int (lo : Nat), .int ((lo : Int) + (i : Int) + 1)])) := same_upd ht1
      refine ⟨d, V.int (Wst pr lo (lo + i + 1) : Nat), rfl, ?_, ?_⟩
      · have g := DGet.t (k := ky lo (lo + i + 1)) (b := t1) (e1 _ _ (e _ _ hd)) upd_same
        rw [show valV kvs (ky lo (lo + i + 1)) = _ from h1] at g
        exact g
      refine ⟨_, rfl, _, rfl, _, _, rfl, rfl, _, rfl, by show 2 ≤ sizeLine; decide, fun t2 ht2 => ?_⟩
      have e2 := e1.trans (same_upd (o := .tup [.int ((lo : Int) + (i : Int) + 1), .int (hi : Nat)]) ht2)
      refine ⟨d, V.int (Wst pr (lo + i + 1) hi : Nat), rfl, ?_, ?_⟩
      · have g := DGet.t (k := ky (lo + i + 1) hi) (b := t2) (e2 _ _ (e _ _ hd)) upd_same
        rw [show valV kvs (ky (lo + i + 1) hi) = _ from h2] at g
        exact g
      refine ⟨_, _, rfl, _, _, rfl, rfl, _, e2 _ _ hD', ?_, ?_, ?_⟩
      · rw [nV_len, List.length_take, costsW_len]
        exact small1000 (by omega)
      · rw [upd_same, take_snoc (costsW_at pr lo hi i hi'), nV_app, max_int]
        have eg : pr.getD (lo + i) 0 = pr[lo + i] := by rw [List.getD_eq_getElem?_getD, List.getElem?_eq_getElem hlt]; rfl
        rw [eg]
        rfl
      · intro b o q
        have hb : b ≠ D := ne_of_none q hD
        rw [upd_ne hb]
        exact e2 _ _ (e b o q)
    · rintro H' ⟨hD', e⟩
      rw [← costsW_len pr lo hi, List.take_length] at hD'
      exact k H' D e hD hD'
theorem d_costs {f : Addr} (T : Txt K mg S C) (F : TF K mg "costs_by_first" sCosts f) : Def P w K mg base 1 "costs_by_first" ["best", "prices", "low", "high"] spCosts :=
  F.def (fun _ => ok_costs T) fun _ _ _ _ _ _ us hl => match us, hl with | [_, _, _, _], _ => rfl
/-! ### the table -/
/-- all spans shorter than i, and of the length i those that begin before j -/
def Full (kvs : List (List Key × V)) (pr : List Nat) (i j : Nat) : Prop := ∀ a b, a ≤ b → b ≤ pr.length → (b - a < i ∨ (b - a = i ∧ a < j)) → Has kvs pr a b
theorem Full.put {kvs : List (List Key × V)} {pr : List Nat} {i j : Nat} (h : Full kvs pr i j) : Full (putK kvs (ky j (j + i)) (.int (Wst pr j (j + i) : Nat))) pr i (j + 1) := fun a b h1 h2 h3 => by
  unfold Has
  rw [valV_put]
  by_cases q : ky a b = ky j (j + i)
  · rw [if_pos q]
    obtain ⟨q1, q2⟩ := ky_inj q
    rw [q1, q2]
  · rw [if_neg q]
    refine h a b h1 h2 ?_
    rcases h3 with h3 | ⟨h3, h4⟩
    · exact .inl h3
    · refine .inr ⟨h3, ?_⟩
      by_cases e : a = j
      · exact absurd (by rw [e, show b = j + i by omega]) q
      · omega
theorem Full.next {kvs : List (List Key × V)} {pr : List Nat} {i : Nat} (h : Full kvs pr i (pr.length - i + 1)) : Full kvs pr (i + 1) 0 := fun a b h1 h2 h3 => by
  refine h a b h1 h2 ?_
  rcases h3 with h3 | ⟨h3, h4⟩
  · by_cases e : b - a = i
    · exact .inr ⟨e, by omega⟩
    · exact .inl (by omega)
  · omega
/-- best_costs: a new table of all spans -/
def spBest : Sp := fun vs H Q _ => ∃ p pr, vs = [.ref p] ∧ H p = some (.lst (nV pr)) ∧ pr.length ≤ 10 ∧
  ∀ H' d kvs, Same H H' → H d = none → H' d = some (.dT kvs) → (∀ a b, a ≤ b → b ≤ pr.length → Has kvs pr a b) → Q (.ref d) H'
theorem scBest : FnScope ["prices", "best", "size", "low"] ["prices"] (defScope sBest) := ⟨rfl, rfl, rfl, by decide +kernel, rfl, by decide +kernel, by decide +kernel⟩
theorem nV_eq_nil {l : List Nat} (h : (l.map fun (n : Nat) => (n : Int)) = []) : l = [] := List.map_eq_nil_iff.mp h
/-- min(.., default=0) of a list of whole numbers from 0 on -/
theorem minD_nat {K : PySem.W.Frag} {H : Hp} {q : Addr} {l : List Nat} {Q : VK} (h : H q = some (.lst (nV l))) (k : Q (.int (minOr l : Nat)) H) : rMinD K (.ref q) (.int 0) H Q := by
  refine ⟨q, nI l, rfl, SqL.of h, fun e => ?_, fun m hm hy => ?_⟩
  · rw [nV_eq_nil e] at k
    exact k
  · obtain ⟨n, hn, rfl⟩ := List.mem_map.mp hm
    have e : minOr l = n := minOr_is hn fun y hy' => by
      have := hy (y : Int) (List.mem_map.mpr ⟨y, hy', rfl⟩)
      omega
    rw [e] at k
    exact k
theorem minD_c {K : PySem.W.Frag} {σ : L2.St} {H : Hp} {q : Addr} {l : List Nat} {Q : VK} (h : H q = some (.lst (nV l))) (k : Q (.int (minOr l : Nat)) H) : tC (.int 0) σ H fun d H2 => rMinD K (.ref q) d H2 Q := minD_nat h k
theorem ok_best {f : Addr} {fd : FuncData} (T : Txt K mg S C) (dC : Def P w K mg base 1 "costs_by_first" ["best", "prices", "low", "high"] spCosts) (F : Fun K "best_costs" "best_costs" sBest f fd) : FnOk P w K mg base CX0 2 f fd ["prices"] spBest := by
  refine F.ok scBest (fun vs H Q E h => ?_) (fun cdv A outer s H vs Q E hr h => ?_)
  · obtain ⟨p, pr, rfl, _⟩ := h
    rfl
  · obtain ⟨p, pr, rfl, hp, hz, k⟩ := h
    have hu := hu_of hr
    refine ⟨_, pss_cons (ps_set (i := 1) scBest.nd rfl (Or.inl rfl) pe_dnewT)
      (pss_cons (ps_for PassesOwn.never rfl (pi_range1 (by rfl) T.bRange (pa_cons (pe_op op_add (plen (K := K) T.bLen (pv 0)) pe_int) pa_nil)) (pg_name (i := 2) scBest.nd rfl (Or.inl rfl))
        (pss_one (ps_for PassesOwn.never rfl (pi_range1 (by rfl) T.bRange (pa_cons (pe_op op_add (pe_op op_sub (plen (K := K) T.bLen (pv 0)) (pv 2)) pe_int) pa_nil)) (pg_name (i := 3) scBest.nd rfl (Or.inl rfl))
          (pss_one (ps_dput hu (pv 1) (pe_tup (pa_cons (pv 3) (pa_cons (pe_op op_add (pv 3) (pv 2)) pa_nil)))
            (pe_minD rfl (by rfl) T.bMin (pe_cl dC hr (pa_cons (pv 1) (pa_cons (pv 0) (pa_cons (pv 3) (pa_cons (pe_op op_add (pv 3) (pv 2)) pa_nil))))) pe_int) rfl)))))
      (pss_one (ps_ret (pv 1)))), ?_⟩
    intro d hd
    have e0 : Same H (upd H d (.dT [])) := same_upd hd
    refine ⟨_, rfl, p, _, rfl, .inl (SqL.of (e0 _ _ hp)), _, _, rfl, rfl, _, rfl, by omega, by rw [nV_len]; omega, ?_⟩
    have en : (((nV pr).length : Int) + 1).toNat = pr.length + 1 := by rw [nV_len]; omega
    rw [en]
    refine for_range (lo := 0) (fun i σ H' => ∃ (v2 v3 : Option V) (kvs : List (List Key × V)), σ = [some (.ref p), some (.ref d), v2, v3] ∧ H' d = some (.dT kvs) ∧ kvs.length ≤ i * 20 ∧ Full kvs pr i 0 ∧ Same H H')
      ⟨none, none, [], rfl, upd_same, by simp, fun a b h1 h2 h3 => by omega, e0⟩ ?_ ?_
    · rintro i σ H1 hi ⟨v2, v3, kvs, rfl, hd1, hl1, hf1, e1⟩
      refine ⟨_, rfl, p, _, rfl, .inl (SqL.of (e1 _ _ hp)), _, rfl, _, _, rfl, rfl, _, _, rfl, rfl, _, rfl, by rw [nV_len]; omega, by rw [nV_len]; omega, ?_⟩
      have en : (((nV pr).length : Int) - ((0 : Int) + (i : Nat)) + 1).toNat = pr.length - i + 1 := by rw [nV_len]; omega
      rw [en]
      refine for_range (lo := 0) (fun j σ H' => ∃ (v3 : Option V) (kvs : List (List Key × V)), σ = [some (.ref p), some (.ref d), some (.int ((0 : Int) + (i : Nat))), v3] ∧ H' d = some (.dT kvs) ∧ kvs.length ≤ i * 20 + j ∧ Full kvs pr i j ∧ Same H H')
        ⟨v3, kvs, rfl, hd1, by omega, hf1, e1⟩ ?_ ?_
      · rintro j σ H2 hj ⟨v3, kvs, rfl, hd2, hl2, hf2, e2⟩
        have ez : (0 : Int) + (i : Nat) = (i : Nat) := by omega
        have ej : (0 : Int) + (j : Nat) = (j : Nat) := by omega
        rw [ez, ej]
        refine ⟨_, rfl, _, rfl, _, rfl, _, rfl, _, rfl, _, _, rfl, rfl, d, p, kvs, pr, j, j + i, rfl, hd2, e2 _ _ hp, by omega, by omega, by omega, fun a b h1 h2 h3 h4 => hf2 a b h2 (by omega) (.inl (by omega)), fun H3 q e3 hq hl3 => ?_⟩
        refine minD_c hl3 ?_
        rw [← Wst_min]
        refine ⟨_, rfl, _, rfl, _, rfl, _, rfl, _, _, rfl, rfl, by show 2 ≤ sizeLine; decide, fun t ht => ?_⟩
        have e4 : Same H3 (upd H3 t (.tup [.int (j : Nat), .int ((j : Int) + (i : Int))])) := same_upd ht
        refine ⟨d, _, rfl, DPut.t (k := ky j (j + i)) (kvs := kvs) (e4 _ _ (e3 _ _ hd2)) upd_same (small1000 (by omega)), ?_⟩
        refine ⟨_, _, rfl, upd_same, ?_, hf2.put, ?_⟩
        · have := length_putK kvs (ky j (j + i)) (.int (Wst pr j (j + i) : Nat))
          omega
        · intro b o q
          have hb : b ≠ d := ne_of_none q hd
          rw [upd_ne hb]
          exact e4 _ _ (e3 _ _ (e2 b o q))
      · rintro σ H2 ⟨v3, kvs, rfl, hd2, hl2, hf2, e2⟩
        exact ⟨_, v3, kvs, rfl, hd2, by omega, hf2.next, e2⟩
    · rintro σ H2 ⟨v2, v3, kvs, rfl, hd2, hl2, hf2, e2⟩
      refine ⟨_, rfl, ?_⟩
      exact k H2 d kvs e2 hd hd2 fun a b h1 h2 => hf2 a b h1 h2 (.inl (by omega))
theorem d_best {f : Addr} (T : Txt K mg S C) (dC : Def P w K mg base 1 "costs_by_first" ["best", "prices", "low", "high"] spCosts) (F : TF K mg "best_costs" sBest f) : Def P w K mg base 2 "best_costs" ["prices"] spBest :=
  F.def (fun _ => ok_best T dC) fun _ _ _ _ _ _ us hl => match us, hl with | [_], _ => rfl
end
end Ff


set_option Elab.async false
set_option linter.all false
set_option maxRecDepth 100000
set_option maxHeartbeats 2000000
/-! The calls that measure and tell. -/
namespace Ff
open PySem PySem.Spec PyProof.Rows L2
abbrev sMeasure : Stmt := top 29
abbrev sOther : Stmt := top 30
abbrev sCould : Stmt := top 31
abbrev sWhere : Stmt := top 32
abbrev sLeast : Stmt := top 41
abbrev sFirst : Stmt := top 42
abbrev sWould : Stmt := top 43
/-- the cable behind a call, and what is answered -/
def outC (c : Kp243.Cable) (x : Kp243.Call) : Kp243.Cable := ((Kp243.step (some c) x).1).getD c
def outA (c : Kp243.Cable) (x : Kp243.Call) : List Int := (Kp243.step (some c) x).2.num :: (Kp243.step (some c) x).2.nums
structure After (S C : Addr) (H H' : Hp) (cab l : Addr) (as : List Addr) (l' : Addr) (as' : List Addr) (c' : Kp243.Cable) : Prop where
  at_ : CabAt S C H' cab l' as' c'
  keep : ∀ b o, H b = some o → b ≠ cab → b ≠ l → b ∉ as → H' b = some o ∧ b ≠ l' ∧ b ∉ as'
theorem After.same {S C : Addr} {H H' : Hp} {cab l : Addr} {as : List Addr} {c : Kp243.Cable} (h : CabAt S C H cab l as c) (e : Same H H') : After S C H H' cab l as l as c :=
  ⟨h.same e, fun b o q _ h2 h3 => ⟨e b o q, h2, h3⟩⟩
/-- a def of one call: so many whole numbers beside the cable -/
def spDo (S C : Addr) (n : Nat) (mk : List Nat → Kp243.Call) : Sp := fun vs H Q _ => ∃ cab l as c args, args.length = n ∧ vs = .ref cab :: nV args ∧ CabAt S C H cab l as c ∧ Good c ∧
  ∀ H' q l' as', After S C H H' cab l as l' as' (outC c (mk args)) → H q = none → H' q = some (.lst ((outA c (mk args)).map V.int)) → Q (.ref q) H'
theorem len1 {l : List Nat} (h : l.length = 1) : ∃ a, l = [a] := match l, h with | [a], _ => ⟨a, rfl⟩
theorem len2 {l : List Nat} (h : l.length = 2) : ∃ a b, l = [a, b] := match l, h with | [a, b], _ => ⟨a, b, rfl⟩
theorem len3 {l : List Nat} (h : l.length = 3) : ∃ a b c, l = [a, b, c] := match l, h with | [a, b, c], _ => ⟨a, b, c, rfl⟩
theorem put_low (b : Bool) (l : Addr) (lo hi op sp v : Nat) : putF "low" (.int v) (cabF b l lo hi op sp) = cabF b l v hi op sp := by rfl
theorem put_high (b : Bool) (l : Addr) (lo hi op sp v : Nat) : putF "high" (.int v) (cabF b l lo hi op sp) = cabF b l lo v op sp := by rfl
theorem put_openings (b : Bool) (l : Addr) (lo hi op sp v : Nat) : putF "openings" (.int v) (cabF b l lo hi op sp) = cabF b l lo hi v sp := by rfl
theorem put_spent (b : Bool) (l : Addr) (lo hi op sp v : Nat) : putF "spent" (.int v) (cabF b l lo hi op sp) = cabF b l lo hi op v := by rfl
section
variable {P : Program} {w : World} {K : PySem.W.Frag} {mg : Str → Option Value} {base : Heap} {S C : Addr}
/-- narrow: by what is left -/
def spNarrow (S C : Addr) : Sp := fun vs H Q _ => ∃ cab l as c q0 h m, vs = [.ref cab, .ref q0] ∧ CabAt S C H cab l as c ∧ Good c ∧ H q0 = some (.lst (nV (List.range' h m))) ∧ h + m ≤ 1000 ∧
  ∀ H' q, CabAt S C H' cab l as (if m = 0 then c else { c with from_ := h, to := h + m }) → (∀ b o, H b = some o → b ≠ cab → H' b = some o) → H q = none → H' q = some (.lst [.int (if m = 0 then -33 else (m : Int))]) → Q (.ref q) H'
theorem scNarrow : FnScope ["cable", "left"] ["cable", "left"] (defScope sNarrow) := ⟨rfl, rfl, rfl, by decide +kernel, rfl, by decide +kernel, by decide +kernel⟩
theorem CabAt.put {H : Hp} {cab l : Addr} {as : List Addr} {c c' : Kp243.Cable} (h : CabAt S C H cab l as c) (es : c'.sections = c.sections) {dx : Addr} {H' : Hp} (hx : H' cab = some (.ins C dx (cabF true l c'.from_ c'.to c'.opened c'.spent))) (kp : ∀ b o, H b = some o → b ≠ cab → H' b = some o) : CabAt S C H' cab l as c' := by
  obtain ⟨dx0, h0⟩ := h.ins
  refine ⟨⟨dx, hx⟩, ⟨kp l _ h.secs.lst (ne_of h.secs.lst h0 (by intro z; cases z)), by rw [es]; exact h.secs.len, fun j a q => ?_⟩, h.nd⟩
  obtain ⟨s, q1, dxs, q2⟩ := h.secs.at_ j a q
  rw [es]
  refine ⟨s, q1, dxs, kp a _ q2 ?_⟩
  intro e
  rw [e, h0] at q2
  have z := Option.some.inj q2
  injection z with _ _ z3
  unfold cabF secF at z3
  injection z3 with z4 _
  injection z4 with z5 _
  exact absurd z5 (by decide)
theorem ok_narrow {f : Addr} {fd : FuncData} (T : Txt K mg S C) (F : Fun K "narrow" "narrow" sNarrow f fd) : FnOk P w K mg base CX0 1 f fd ["cable", "left"] (spNarrow S C) := by
  refine F.ok scNarrow (fun vs H Q E h => ?_) (fun cdv A outer s H vs Q E hr h => ?_)
  · obtain ⟨cab, l, as, c, q0, h, m, rfl, _⟩ := h
    rfl
  · obtain ⟨cab, l, as, c, q0, h, m, rfl, hc, hg, hq0, hb, k⟩ := h
    obtain ⟨dx, hx⟩ := hc.ins
    refine ⟨_, pss_cons (ps_if (pt_cmpR op_eq (plen (K := K) T.bLen (pv 1)) pe_int (nomark _)) (pss_one (ps_ret (pe_lst (pa_cons (pe_ci T.mNoAnswer) pa_nil)))) pss_nil)
      (pss_cons (ps_fld (pv 0) (pxl (K := K) (pv 1) pe_int) rfl)
      (pss_cons (ps_fld (pv 0) (pe_op op_add (pxl (K := K) (pv 1) (pe_un un_neg pe_int)) pe_int) rfl)
      (pss_one (ps_ret (pe_lst (pa_cons (plen (K := K) T.bLen (pv 1)) pa_nil)))))), ?_⟩
    refine ⟨_, rfl, q0, _, rfl, .inl (SqL.of hq0), rfl, _, rfl, ?_⟩
    rw [nV_len, List.length_range']
    refine ite2 (fun h1 => ?_) fun h1 => ?_
    · have hm : m = 0 := by
        have z := of_decide_eq_true h1
        injection z with z
        omega
      refine ⟨by show 1 ≤ sizeLine; decide, fun q hq => ?_⟩
      refine k _ q ?_ (fun b o e _ => same_upd hq b o e) hq ?_
      · rw [if_pos hm]; exact hc.same (same_upd hq)
      · rw [upd_same, if_pos hm]
    · have hm : m ≠ 0 := fun z => h1 (by rw [z]; rfl)
      have n0 : q0 ≠ cab := ne_of hq0 hx (by intro z; cases z)
      obtain ⟨m', rfl⟩ : ∃ m', m = m' + 1 := ⟨m - 1, by omega⟩
      refine ⟨_, rfl, q0, _, 0, _, rfl, rfl, SqL.of hq0, atI_nat (j := 0) (nV_get (n := h) (by rw [List.range'_succ]; rfl)), _, rfl, cab, C, dx, _, rfl, hx, T.clC, T.naL, by show 6 < 1000; decide, ?_⟩
      rw [put_low]
      have hq1 : upd H cab (.ins C dx (cabF true l h c.to c.opened c.spent)) q0 = some (.lst (nV (List.range' h (m' + 1)))) := by rw [upd_ne n0]; exact hq0
      refine ⟨_, rfl, _, rfl, q0, _, -1, .int ((h + m' : Nat) : Int), rfl, rfl, SqL.of hq1, ?_, _, _, rfl, rfl, _, rfl, cab, C, dx, _, rfl, upd_same, T.clC, T.naH, by show 6 < 1000; decide, ?_⟩
      · rw [List.range'_concat, nV_app]
        simp only [Nat.one_mul]
        exact atI_last _ _
      dsimp only
      rw [show ((h + m' : Nat) : Int) + 1 = ((h + (m' + 1) : Nat) : Int) by omega, put_high, upd_upd]
      generalize hH2 : upd H cab (.ins C dx (cabF true l h (h + (m' + 1)) c.opened c.spent)) = H2
      have kp2 : ∀ b o, H b = some o → b ≠ cab → H2 b = some o := fun b o e hbc => by rw [← hH2, upd_ne hbc]; exact e
      have hx2 : H2 cab = some (.ins C dx (cabF true l h (h + (m' + 1)) c.opened c.spent)) := by rw [← hH2]; exact upd_same
      refine ⟨_, rfl, q0, _, rfl, .inl (SqL.of (kp2 _ _ hq0 n0)), by show 1 ≤ sizeLine; decide, fun q hq => ?_⟩
      have hqH : H q = none := by
        cases e : H q with
        | none => rfl
        | some o =>
          by_cases hqc : q = cab
          · rw [hqc, hx2] at hq; cases hq
          · rw [kp2 q o e hqc] at hq; cases hq
      refine k _ q ?_ (fun b o e hbc => same_upd hq b o (kp2 b o e hbc)) hqH ?_
      · rw [if_neg hm]
        exact (hc.put (c' := { c with from_ := h, to := h + (m' + 1) }) rfl hx2 kp2).same (same_upd hq)
      · rw [upd_same, if_neg hm, nV_len, List.length_range']
theorem d_narrow {f : Addr} (T : Txt K mg S C) (F : TF K mg "narrow" sNarrow f) : Def P w K mg base 1 "narrow" ["cable", "left"] (spNarrow S C) :=
  F.def (fun _ => ok_narrow T) fun _ _ _ _ _ _ us hl => match us, hl with | [_, _], _ => rfl
/-! ### measure, other, could, where -/
theorem scMeasure : FnScope ["cable", "lo", "hi"] ["cable", "lo", "hi"] (defScope sMeasure) := ⟨rfl, rfl, rfl, by decide +kernel, rfl, by decide +kernel, by decide +kernel⟩
theorem dec_lt (a b : Nat) : decide ((a : Int) < (b : Int)) = decide (a < b) := by
  by_cases h : a < b
  · rw [decide_eq_true h, decide_eq_true (by omega)]
  · rw [decide_eq_false h, decide_eq_false (by omega)]
theorem measure_out (c : Kp243.Cable) (lo hi : Nat) (h : hi < lo) : outC c (.measure lo hi) = c ∧ outA c (.measure lo hi) = [-22] := by
  unfold outC outA Kp243.step
  simp only [if_pos h]
  exact ⟨rfl, rfl⟩
theorem measure_cut (c : Kp243.Cable) (lo hi : Nat) (h : ¬ hi < lo) {a m : Nat} (e : Kp243.cutBy c (Kp243.mayA c lo hi) = if m = 0 then none else some { c with from_ := a, to := a + m }) :
    outC c (.measure lo hi) = (if m = 0 then c else { c with from_ := a, to := a + m }) ∧ outA c (.measure lo hi) = [if m = 0 then -33 else (m : Int)] := by
  unfold outC outA Kp243.step
  simp only [if_neg h]
  rw [e]
  by_cases hm : m = 0
  · simp only [if_pos hm]
    exact ⟨rfl, rfl⟩
  · simp only [if_neg hm]
    refine ⟨rfl, ?_⟩
    show [((a + m - a : Nat) : Int)] = [(m : Int)]
    rw [show a + m - a = m by omega]
theorem other_out (c : Kp243.Cable) (lo hi : Nat) (h : hi < lo) : outC c (.other lo hi) = c ∧ outA c (.other lo hi) = [-22] := by
  unfold outC outA Kp243.step
  simp only [if_pos h]
  exact ⟨rfl, rfl⟩
theorem other_cut (c : Kp243.Cable) (lo hi : Nat) (h : ¬ hi < lo) {a m : Nat} (e : Kp243.cutBy c (Kp243.mayB c lo hi) = if m = 0 then none else some { c with from_ := a, to := a + m }) :
    outC c (.other lo hi) = (if m = 0 then c else { c with from_ := a, to := a + m }) ∧ outA c (.other lo hi) = [if m = 0 then -33 else (m : Int)] := by
  unfold outC outA Kp243.step
  simp only [if_neg h]
  rw [e]
  by_cases hm : m = 0
  · simp only [if_pos hm]
    exact ⟨rfl, rfl⟩
  · simp only [if_neg hm]
    refine ⟨rfl, ?_⟩
    show [((a + m - a : Nat) : Int)] = [(m : Int)]
    rw [show a + m - a = m by omega]
def mkM : List Nat → Kp243.Call | [lo, hi] => .measure lo hi | _ => .sums
def mkO : List Nat → Kp243.Call | [lo, hi] => .other lo hi | _ => .sums
def mkC : List Nat → Kp243.Call | [lo, hi] => .could lo hi | _ => .sums
theorem ok_measure {f : Addr} {fd : FuncData} (T : Txt K mg S C) (dN : Def P w K mg base 1 "narrow" ["cable", "left"] (spNarrow S C)) (dL : Def P w K mg base 4 "left_by_measure" ["cable", "lo", "hi"] (spLeft S C Kp243.mayA))
    (F : Fun K "measure" "measure" sMeasure f fd) : FnOk P w K mg base CX0 5 f fd ["cable", "lo", "hi"] (spDo S C 2 mkM) := by
  refine F.ok scMeasure (fun vs H Q E h => ?_) (fun cdv A outer s H vs Q E hr h => ?_)
  · obtain ⟨cab, l, as, c, args, hl, rfl, _⟩ := h
    show (nV args).length + 1 = 3
    rw [nV_len, hl]
  · obtain ⟨cab, l, as, c, args, hl, rfl, hc, hg, k⟩ := h
    obtain ⟨lo, hi, rfl⟩ := len2 hl
    have hr1 : Room 1 _ := hr.mono (by decide)
    refine ⟨_, pss_cons (ps_if (pt_cmpR op_lt (pv 2) (pv 1) (nomark _)) (pss_one (ps_ret (pe_lst (pa_cons (pe_ci T.mOut) pa_nil)))) pss_nil)
      (pss_one (ps_ret (pe_cl dN hr1 (pa_cons (pv 0) (pa_cons (pe_cl dL hr (pa_cons (pv 0) (pa_cons (pv 1) (pa_cons (pv 2) pa_nil)))) pa_nil))))), ?_⟩
    refine ⟨_, rfl, _, rfl, _, _, rfl, rfl, _, rfl, ?_⟩
    rw [dec_lt]
    refine ite2 (fun h1 => ?_) fun h1 => ?_
    · have hlt : hi < lo := of_decide_eq_true h1
      obtain ⟨o1, o2⟩ := measure_out c lo hi hlt
      refine ⟨by show 1 ≤ sizeLine; decide, fun q hq => k _ q l as ?_ hq ?_⟩
      · rw [show outC c (mkM [lo, hi]) = c from o1]
        exact After.same hc (same_upd hq)
      · rw [show outA c (mkM [lo, hi]) = [-22] from o2, upd_same]
        rfl
    · have hlt : ¬ hi < lo := fun z => h1 (decide_eq_true z)
      obtain ⟨a, m, b1, b2, b3, b4⟩ := left_run c hg.ft hg.tn (conv_mayA c lo hi)
      obtain ⟨o1, o2⟩ := measure_cut c lo hi hlt b4
      refine ⟨_, rfl, _, rfl, _, rfl, _, rfl, cab, l, as, c, lo, hi, rfl, hc, hg, fun H1 q1 e1 hq1 hl1 => ?_⟩
      rw [b3] at hl1
      have := hg.tn
      have := hg.n10
      refine ⟨cab, l, as, c, q1, a, m, rfl, hc.same e1, hg, hl1, by omega, fun H2 q hc2 kp hq hl2 => k H2 q l as ?_ (e1.free hq) ?_⟩
      · rw [show outC c (mkM [lo, hi]) = _ from o1]
        exact ⟨hc2, fun b o e n1 n2 n3 => ⟨kp b o (e1 b o e) n1, n2, n3⟩⟩
      · rw [show outA c (mkM [lo, hi]) = _ from o2]
        exact hl2
theorem scOther : FnScope ["cable", "lo", "hi"] ["cable", "lo", "hi"] (defScope sOther) := ⟨rfl, rfl, rfl, by decide +kernel, rfl, by decide +kernel, by decide +kernel⟩
theorem ok_other {f : Addr} {fd : FuncData} (T : Txt K mg S C) (dN : Def P w K mg base 1 "narrow" ["cable", "left"] (spNarrow S C)) (dL : Def P w K mg base 4 "left_by_other" ["cable", "lo", "hi"] (spLeft S C Kp243.mayB))
    (F : Fun K "other" "other" sOther f fd) : FnOk P w K mg base CX0 5 f fd ["cable", "lo", "hi"] (spDo S C 2 mkO) := by
  refine F.ok scOther (fun vs H Q E h => ?_) (fun cdv A outer s H vs Q E hr h => ?_)
  · obtain ⟨cab, l, as, c, args, hl, rfl, _⟩ := h
    show (nV args).length + 1 = 3
    rw [nV_len, hl]
  · obtain ⟨cab, l, as, c, args, hl, rfl, hc, hg, k⟩ := h
    obtain ⟨lo, hi, rfl⟩ := len2 hl
    have hr1 : Room 1 _ := hr.mono (by decide)
    refine ⟨_, pss_cons (ps_if (pt_cmpR op_lt (pv 2) (pv 1) (nomark _)) (pss_one (ps_ret (pe_lst (pa_cons (pe_ci T.mOut) pa_nil)))) pss_nil)
      (pss_one (ps_ret (pe_cl dN hr1 (pa_cons (pv 0) (pa_cons (pe_cl dL hr (pa_cons (pv 0) (pa_cons (pv 1) (pa_cons (pv 2) pa_nil)))) pa_nil))))), ?_⟩
    refine ⟨_, rfl, _, rfl, _, _, rfl, rfl, _, rfl, ?_⟩
    rw [dec_lt]
    refine ite2 (fun h1 => ?_) fun h1 => ?_
    · have hlt : hi < lo := of_decide_eq_true h1
      obtain ⟨o1, o2⟩ := other_out c lo hi hlt
      refine ⟨by show 1 ≤ sizeLine; decide, fun q hq => k _ q l as ?_ hq ?_⟩
      · rw [show outC c (mkO [lo, hi]) = c from o1]
        exact After.same hc (same_upd hq)
      · rw [show outA c (mkO [lo, hi]) = [-22] from o2, upd_same]
        rfl
    · have hlt : ¬ hi < lo := fun z => h1 (decide_eq_true z)
      obtain ⟨a, m, b1, b2, b3, b4⟩ := left_run c hg.ft hg.tn (conv_mayB c lo hi)
      obtain ⟨o1, o2⟩ := other_cut c lo hi hlt b4
      refine ⟨_, rfl, _, rfl, _, rfl, _, rfl, cab, l, as, c, lo, hi, rfl, hc, hg, fun H1 q1 e1 hq1 hl1 => ?_⟩
      rw [b3] at hl1
      have := hg.tn
      have := hg.n10
      refine ⟨cab, l, as, c, q1, a, m, rfl, hc.same e1, hg, hl1, by omega, fun H2 q hc2 kp hq hl2 => k H2 q l as ?_ (e1.free hq) ?_⟩
      · rw [show outC c (mkO [lo, hi]) = _ from o1]
        exact ⟨hc2, fun b o e n1 n2 n3 => ⟨kp b o (e1 b o e) n1, n2, n3⟩⟩
      · rw [show outA c (mkO [lo, hi]) = _ from o2]
        exact hl2
theorem could_out (c : Kp243.Cable) (lo hi : Nat) : outC c (.could lo hi) = c ∧ outA c (.could lo hi) = [if hi < lo then -22 else ((((Kp243.now c).filter (Kp243.mayA c lo hi)).length : Nat) : Int)] := by
  unfold outC outA Kp243.step
  by_cases h : hi < lo
  · simp only [if_pos h]
    exact ⟨rfl, rfl⟩
  · simp only [if_neg h]
    exact ⟨rfl, rfl⟩
theorem scCould : FnScope ["cable", "lo", "hi"] ["cable", "lo", "hi"] (defScope sCould) := ⟨rfl, rfl, rfl, by decide +kernel, rfl, by decide +kernel, by decide +kernel⟩
theorem ok_could {f : Addr} {fd : FuncData} (T : Txt K mg S C) (dL : Def P w K mg base 4 "left_by_measure" ["cable", "lo", "hi"] (spLeft S C Kp243.mayA))
    (F : Fun K "could" "could" sCould f fd) : FnOk P w K mg base CX0 5 f fd ["cable", "lo", "hi"] (spDo S C 2 mkC) := by
  refine F.ok scCould (fun vs H Q E h => ?_) (fun cdv A outer s H vs Q E hr h => ?_)
  · obtain ⟨cab, l, as, c, args, hl, rfl, _⟩ := h
    show (nV args).length + 1 = 3
    rw [nV_len, hl]
  · obtain ⟨cab, l, as, c, args, hl, rfl, hc, hg, k⟩ := h
    obtain ⟨lo, hi, rfl⟩ := len2 hl
    obtain ⟨o1, o2⟩ := could_out c lo hi
    rw [show outC c (mkC [lo, hi]) = c from o1, show outA c (mkC [lo, hi]) = _ from o2] at k
    refine ⟨_, pss_cons (ps_if (pt_cmpR op_lt (pv 2) (pv 1) (nomark _)) (pss_one (ps_ret (pe_lst (pa_cons (pe_ci T.mOut) pa_nil)))) pss_nil)
      (pss_one (ps_ret (pe_lst (pa_cons (plen (K := K) T.bLen (pe_cl dL hr (pa_cons (pv 0) (pa_cons (pv 1) (pa_cons (pv 2) pa_nil))))) pa_nil)))), ?_⟩
    refine ⟨_, rfl, _, rfl, _, _, rfl, rfl, _, rfl, ?_⟩
    rw [dec_lt]
    refine ite2 (fun h1 => ?_) fun h1 => ?_
    · have hlt : hi < lo := of_decide_eq_true h1
      refine ⟨by show 1 ≤ sizeLine; decide, fun q hq => k _ q l as (After.same hc (same_upd hq)) hq ?_⟩
      rw [if_pos hlt, upd_same]
      rfl
    · have hlt : ¬ hi < lo := fun z => h1 (decide_eq_true z)
      refine ⟨_, rfl, _, rfl, _, rfl, cab, l, as, c, lo, hi, rfl, hc, hg, fun H1 q1 e1 hq1 hl1 => ?_⟩
      refine ⟨q1, _, rfl, .inl (SqL.of hl1), by show 1 ≤ sizeLine; decide, fun q hq => k _ q l as (After.same hc (e1.trans (same_upd hq))) (e1.free hq) ?_⟩
      rw [if_neg hlt, upd_same, nV_len]
      rfl
def mk0 (x : Kp243.Call) : List Nat → Kp243.Call := fun _ => x
theorem scWhere : FnScope ["cable"] ["cable"] (defScope sWhere) := ⟨rfl, rfl, rfl, by decide +kernel, rfl, by decide +kernel, by decide +kernel⟩
theorem len0 {l : List Nat} (h : l.length = 0) : l = [] := List.length_eq_zero_iff.mp h
theorem ok_where {f : Addr} {fd : FuncData} (T : Txt K mg S C) (dM : Def P w K mg base 1 "may_be" ["cable"] (spMayBe S C)) (F : Fun K "where" "where" sWhere f fd) : FnOk P w K mg base CX0 2 f fd ["cable"] (spDo S C 0 (mk0 .where_)) := by
  refine F.ok scWhere (fun vs H Q E h => ?_) (fun cdv A outer s H vs Q E hr h => ?_)
  · obtain ⟨cab, l, as, c, args, hl, rfl, _⟩ := h
    show (nV args).length + 1 = 1
    rw [nV_len, hl]
  · obtain ⟨cab, l, as, c, args, hl, rfl, hc, hg, k⟩ := h
    obtain rfl := len0 hl
    obtain ⟨dx, hx⟩ := hc.ins
    refine ⟨_, pss_one (ps_ret (pe_op op_cat (pe_lst (pa_cons (pe_op op_sub (pf (K := K) 0) (pf (K := K) 0)) pa_nil)) (pe_cl dM hr (pa_cons (pv 0) pa_nil)))), ?_⟩
    refine ⟨_, rfl, cab, C, dx, _, _, rfl, hx, T.clC, T.naH, rfl, _, rfl, cab, C, dx, _, _, rfl, hx, T.clC, T.naL, rfl, _, _, rfl, rfl, by show 1 ≤ sizeLine; decide, fun q1 hq1 => ?_⟩
    have e1 := same_upd (o := .lst [.int ((c.to : Int) - (c.from_ : Int))]) hq1
    refine ⟨_, rfl, cab, l, as, c, rfl, hc.same e1, hg, fun H2 q2 e2 hq2 hl2 => ?_⟩
    refine ⟨q1, q2, _, _, rfl, rfl, e2 _ _ upd_same, hl2, ?_, fun q hq => ?_⟩
    · rw [nV_len]
      have := now_len hg
      show 1 + _ ≤ sizeLine
      exact Nat.le_of_lt (small1000 (by omega))
    · refine k _ q l as (After.same hc ((e1.trans e2).trans (same_upd hq))) ((e1.trans e2).free hq) ?_
      rw [upd_same]
      have h1 := hg.ft
      have e3 : ((c.to : Int) - (c.from_ : Int)) = (((Kp243.now c).length : Nat) : Int) := by
        rw [now_run c hg.ft hg.tn, List.length_range']
        omega
      dsimp only
      rw [e3]
      rfl
end
end Ff


set_option Elab.async false
set_option linter.all false
set_option maxRecDepth 100000
set_option maxHeartbeats 2000000
/-! The calls about the best way. -/
namespace Ff
open PySem PySem.Spec PyProof.Rows L2
abbrev sCan : Stmt := top 33
abbrev sOpensFirst : Stmt := top 39
abbrev sPricesOf : Stmt := top 40
abbrev sFewest : Stmt := top 44
abbrev sSpends : Stmt := top 45
section
variable {P : Program} {w : World} {K : PySem.W.Frag} {mg : Str → Option Value} {base : Heap} {S C : Addr}
theorem prices_len (c : Kp243.Cable) : (prices c).length = Kp243.size c := by unfold prices Kp243.size; rw [List.length_map]
theorem Good.to11 {c : Kp243.Cable} (g : Good c) : c.to ≤ c.from_ + 11 := by
  have := g.tn
  have := g.n10
  omega
/-! ### prices_of -/
/-- prices_of: a new list of what each opening costs -/
def spPrices (S C : Addr) : Sp := fun vs H Q _ => ∃ cab l as c, vs = [.ref cab] ∧ CabAt S C H cab l as c ∧ Good c ∧ ∀ H' q, Same H H' → H q = none → H' q = some (.lst (nV (prices c))) → Q (.ref q) H'
theorem scPricesOf : FnScope ["cable", "part"] ["cable"] (defScope sPricesOf) := ⟨rfl, rfl, rfl, by decide +kernel, rfl, by decide +kernel, by decide +kernel⟩
theorem ok_prices_of {f : Addr} {fd : FuncData} (T : Txt K mg S C) (F : Fun K "prices_of" "prices_of" sPricesOf f fd) : FnOk P w K mg base CX0 1 f fd ["cable"] (spPrices S C) := by
  refine F.ok scPricesOf (fun vs H Q E h => ?_) (fun cdv A outer s H vs Q E hr h => ?_)
  · obtain ⟨cab, l, as, c, rfl, _⟩ := h
    rfl
  · obtain ⟨cab, l, as, c, rfl, hc, hg, k⟩ := h
    obtain ⟨dx, hx⟩ := hc.ins
    refine ⟨_, pss_one (ps_ret (pe_lc rfl scPricesOf.nd (pi_list (pf (K := K) 0)) (blkOk_by (own := [("part", 1)]) (by rfl))
      (fun _ _ _ _ _ => pg_name (i := 1) scPricesOf.nd rfl (Or.inl rfl)) (fun _ _ _ _ _ => pts_nil) (fun _ _ _ _ _ => pf (K := K) 1))), ?_⟩
    refine ⟨_, rfl, cab, C, dx, _, _, rfl, hx, T.clC, T.naS, rfl, l, rfl, ⟨_, SqL.of hc.secs.lst⟩, fun D hD => lc_list (K := K) (a := l) (xs := as.map V.ref) (fun i H' => H' D = some (.lst (nV ((prices c).take i))) ∧ Same H H') ⟨upd_same, same_upd hD⟩
      (fun i H' _ ⟨_, e⟩ => SqL.of (e _ _ hc.secs.lst)) ?_ ?_⟩
    · rintro i x H' hx' ⟨hD', e⟩
      rw [List.getElem?_map] at hx'
      cases ha : as[i]? with
      | none => rw [ha] at hx'; cases hx'
      | some a =>
        rw [ha] at hx'
        obtain rfl := Option.some.inj hx'
        obtain ⟨z, hz1, hz2⟩ := hc.secs.at_ i a ha
        obtain ⟨dz, hz3⟩ := hz2.same e
        refine ⟨rfl, ty1 ?_⟩
        refine ⟨_, rfl, a, S, dz, _, _, rfl, hz3, T.clS, T.naO, rfl, _, hD', ?_, ?_, ?_⟩
        · rw [nV_len, List.length_take, prices_len]
          have := hg.n10
          exact small1000 (by omega)
        · rw [upd_same, take_snoc (x := z.opens) (by unfold prices; rw [List.getElem?_map, hz1]; rfl), nV_app]
          rfl
        · intro b o q
          have hb : b ≠ D := ne_of_none q hD
          rw [upd_ne hb]
          exact e b o q
    · rintro H1 ⟨hD1, e1⟩
      rw [List.length_map, hc.secs.len, show c.sections.length = (prices c).length from (prices_len c).symm, List.take_length] at hD1
      exact k H1 D e1 hD hD1
theorem d_prices_of {f : Addr} (T : Txt K mg S C) (F : TF K mg "prices_of" sPricesOf f) : Def P w K mg base 1 "prices_of" ["cable"] (spPrices S C) :=
  F.def (fun _ => ok_prices_of T) fun _ _ _ _ _ _ us hl => match us, hl with | [_], _ => rfl
/-! ### opens_first -/
theorem index_nat {K : PySem.W.Frag} {H : Hp} {q : Addr} {l : List Nat} {m : Nat} {Q : VK} (h : H q = some (.lst (nV l))) (hm : m ∈ l) (k : ∀ j : Nat, l[j]? = some m → (∀ i, i < j → l[i]? ≠ some m) → Q (.int (j : Nat)) H) : rIndex K (.ref q) [.int (m : Nat)] H Q := by
  have ex : ∃ j : Nat, l[j]? = some m ∧ ∀ i, i < j → l[i]? ≠ some m := by
    clear h k
    induction l with
    | nil => cases hm
    | cons a l ih =>
      by_cases e : a = m
      · exact ⟨0, by rw [e]; rfl, fun i hi => by omega⟩
      · obtain ⟨j, h1, h2⟩ := ih (by rcases List.mem_cons.mp hm with z | z; exact absurd z.symm e; exact z)
        refine ⟨j + 1, h1, fun i hi => ?_⟩
        cases i with
        | zero => intro z; exact e (Option.some.inj z)
        | succ i => exact h2 i (by omega)
  obtain ⟨j, h1, h2⟩ := ex
  refine ⟨q, nV l, .int (m : Nat), j, .int (m : Nat), rfl, rfl, SqL.of h, rfl, ?_, nV_get h1, ?_, fun i z hi hz => ?_, k j h1 h2⟩
  · rw [List.all_eq_true]
    intro x hx
    unfold nV at hx
    obtain ⟨y, _, rfl⟩ := List.mem_map.mp hx
    rfl
  · show ((m : Int) == (m : Int)) = true
    exact beq_self_eq_true _
  · obtain ⟨n, hn, rfl⟩ := nV_at hz
    show ((n : Int) == (m : Int)) = false
    refine beq_eq_false_iff_ne.mpr fun e => h2 i hi ?_
    rw [hn, show n = m by omega]
theorem index_c {K : PySem.W.Frag} {σ : L2.St} {H : Hp} {q : Addr} {l : List Nat} {m : Nat} {Q : VK} (h : H q = some (.lst (nV l))) (hm : m ∈ l) (k : ∀ j : Nat, l[j]? = some m → (∀ i, i < j → l[i]? ≠ some m) → Q (.int (j : Nat)) H) :
    tNil σ H fun xs H2 => rIndex K (.ref q) (.int (m : Nat) :: xs) H2 Q := index_nat h hm k
/-- opens_first: the first of the cheapest, from lo to hi -/
def spOF : Sp := fun vs H Q _ => ∃ d p kvs pr lo hi, vs = [.ref d, .ref p, .int (lo : Nat), .int (hi : Nat)] ∧ H d = some (.dT kvs) ∧ H p = some (.lst (nV pr)) ∧ lo + 1 < hi ∧ hi ≤ pr.length ∧ pr.length ≤ 1000 ∧
  (∀ a b, lo ≤ a → a ≤ b → b ≤ hi → b - a < hi - lo → Has kvs pr a b) ∧ ∀ (H' : Hp) (j : Nat), Same H H' → j < hi - lo - 1 → (costsW pr lo hi)[j]? = some (Wst pr lo hi) → (∀ i, i < j → (costsW pr lo hi)[i]? ≠ some (Wst pr lo hi)) → Q (.int ((lo + j : Nat) : Int)) H'
theorem scOpensFirst : FnScope ["best", "prices", "low", "high", "costs"] ["best", "prices", "low", "high"] (defScope sOpensFirst) := ⟨rfl, rfl, rfl, by decide +kernel, rfl, by decide +kernel, by decide +kernel⟩
theorem ok_opens_first {f : Addr} {fd : FuncData} (T : Txt K mg S C) (dC : Def P w K mg base 1 "costs_by_first" ["best", "prices", "low", "high"] spCosts) (F : Fun K "opens_first" "opens_first" sOpensFirst f fd) : FnOk P w K mg base CX0 2 f fd ["best", "prices", "low", "high"] spOF := by
  refine F.ok scOpensFirst (fun vs H Q E h => ?_) (fun cdv A outer s H vs Q E hr h => ?_)
  · obtain ⟨d, p, kvs, pr, lo, hi, rfl, _⟩ := h
    rfl
  · obtain ⟨d, p, kvs, pr, lo, hi, rfl, hd, hp, hlh, hh, hz, has, k⟩ := h
    refine ⟨_, pss_cons (ps_set (i := 4) scOpensFirst.nd rfl (Or.inl rfl) (pe_cl dC hr (pa_cons (pv 0) (pa_cons (pv 1) (pa_cons (pv 2) (pa_cons (pv 3) pa_nil))))))
      (pss_one (ps_ret (pe_op op_add (pv 2) (pe_bm PySem.F.plainAttrs_list PySem.F.slot_list_index PySem.F.type_list_index mt_index (pv 4) (pa_cons (pe_callB (cr_min rfl) (by rfl) T.bMin boot_min (pa_cons (pv 4) pa_nil)) pa_nil))))), ?_⟩
    refine ⟨_, rfl, _, rfl, _, rfl, _, rfl, d, p, kvs, pr, lo, hi, rfl, hd, hp, by omega, hh, hz, has, fun H1 q1 e1 hq1 hl1 => ?_⟩
    refine ⟨_, rfl, _, rfl, .inl ⟨rfl, _, SqL.of hl1⟩, _, rfl, q1, _, rfl, SqL.of hl1, ?_, fun m hm hy => ?_⟩
    · show 0 < (nI _).length
      unfold nI
      rw [List.length_map, costsW_len]
      omega
    · obtain ⟨n, hn, rfl⟩ := List.mem_map.mp hm
      have en : n = Wst pr lo hi := by
        rw [Wst_min]
        exact (minOr_is hn fun y hy' => by
          have := hy (y : Int) (List.mem_map.mpr ⟨y, hy', rfl⟩)
          omega).symm
      refine index_c hl1 hn fun j hj hno => ?_
      have hjl : j < hi - lo - 1 := by
        have := (List.getElem?_eq_some_iff.mp hj).1
        rw [costsW_len] at this
        exact this
      rw [en] at hj hno
      exact ⟨_, _, rfl, rfl, k H1 j e1 hjl hj hno⟩
theorem d_opens_first {f : Addr} (T : Txt K mg S C) (dC : Def P w K mg base 1 "costs_by_first" ["best", "prices", "low", "high"] spCosts) (F : TF K mg "opens_first" sOpensFirst f) : Def P w K mg base 2 "opens_first" ["best", "prices", "low", "high"] spOF :=
  F.def (fun _ => ok_opens_first T dC) fun _ _ _ _ _ _ us hl => match us, hl with | [_, _, _, _], _ => rfl
/-- of a cable: where it is opened first -/
theorem first_of (c : Kp243.Cable) (j : Nat) (h : c.to ≤ c.from_ + 11) (hj : j < c.to - c.from_ - 1) (e : (costsW (prices c) c.from_ c.to)[j]? = some (Wst (prices c) c.from_ c.to))
    (hno : ∀ i, i < j → (costsW (prices c) c.from_ c.to)[i]? ≠ some (Wst (prices c) c.from_ c.to)) : Kp243.first c = some (c.from_ + j) := by
  refine first_some c j h hj ?_ fun i hi z => ?_
  · rw [cost_at c j h hj] at e
    rw [least_Wst c h]
    exact Option.some.inj e
  · refine hno i hi ?_
    rw [cost_at c i h (by omega), z, least_Wst c h]
/-! ### least -/
theorem scLeast : FnScope ["cable"] ["cable"] (defScope sLeast) := ⟨rfl, rfl, rfl, by decide +kernel, rfl, by decide +kernel, by decide +kernel⟩
theorem ok_least {f : Addr} {fd : FuncData} (T : Txt K mg S C) (dP : Def P w K mg base 1 "prices_of" ["cable"] (spPrices S C)) (dB : Def P w K mg base 2 "best_costs" ["prices"] spBest) (F : Fun K "least" "least" sLeast f fd) : FnOk P w K mg base CX0 3 f fd ["cable"] (spDo S C 0 (mk0 .least)) := by
  refine F.ok scLeast (fun vs H Q E h => ?_) (fun cdv A outer s H vs Q E hr h => ?_)
  · obtain ⟨cab, l, as, c, args, hl, rfl, _⟩ := h
    show (nV args).length + 1 = 1
    rw [nV_len, hl]
  · obtain ⟨cab, l, as, c, args, hl, rfl, hc, hg, k⟩ := h
    obtain rfl := len0 hl
    have hr1 : Room 1 _ := hr.mono (by decide)
    have hu := hu_of hr
    refine ⟨_, pss_one (ps_ret (pe_lst (pa_cons (pe_dget hu (pe_cl dB hr (pa_cons (pe_cl dP hr1 (pa_cons (pv 0) pa_nil)) pa_nil)) (pe_tup (pa_cons (pf (K := K) 0) (pa_cons (pf (K := K) 0) pa_nil))) (fun _ _ => rfl)) pa_nil))), ?_⟩
    refine ⟨_, rfl, cab, l, as, c, rfl, hc, hg, fun H1 q1 e1 hq1 hl1 => ?_⟩
    have h10 := hg.n10
    have htn := hg.tn
    refine ⟨q1, prices c, rfl, hl1, by rw [prices_len]; exact h10, fun H2 d kvs e2 hd hd2 has => ?_⟩
    obtain ⟨dx2, hx2⟩ := (hc.same (e1.trans e2)).ins
    refine ⟨_, rfl, cab, C, dx2, _, _, rfl, hx2, T.clC, T.naL, rfl, _, rfl, cab, C, dx2, _, _, rfl, hx2, T.clC, T.naH, rfl, by show 2 ≤ sizeLine; decide, fun t ht => ?_⟩
    have e3 := e2.trans (same_upd (o := .tup [.int (c.from_ : Nat), .int (c.to : Nat)]) ht)
    have hw : Has kvs (prices c) c.from_ c.to := has c.from_ c.to hg.ft (by rw [prices_len]; exact htn)
    refine ⟨d, V.int (Wst (prices c) c.from_ c.to : Nat), rfl, ?_, ?_⟩
    · have g := DGet.t (k := ky c.from_ c.to) (b := t) (same_upd ht _ _ hd2) upd_same
      rw [show valV kvs (ky c.from_ c.to) = _ from hw] at g
      exact g
    refine ⟨by show 1 ≤ sizeLine; decide, fun q hq => k _ q l as (After.same hc ((e1.trans e3).trans (same_upd hq))) ((e1.trans e3).free hq) ?_⟩
    rw [upd_same, ← least_Wst c hg.to11]
    rfl
/-! ### first -/
theorem first_out (c : Kp243.Cable) : outC c .first = c ∧ outA c .first = [match Kp243.first c with | some i => (i : Int) | none => -33] := by
  unfold outC outA Kp243.step
  refine ⟨rfl, ?_⟩
  simp only
  cases Kp243.first c <;> rfl
theorem scFirst : FnScope ["cable", "prices"] ["cable"] (defScope sFirst) := ⟨rfl, rfl, rfl, by decide +kernel, rfl, by decide +kernel, by decide +kernel⟩
theorem ok_first {f : Addr} {fd : FuncData} (T : Txt K mg S C) (dP : Def P w K mg base 1 "prices_of" ["cable"] (spPrices S C)) (dB : Def P w K mg base 2 "best_costs" ["prices"] spBest) (dO : Def P w K mg base 2 "opens_first" ["best", "prices", "low", "high"] spOF)
    (F : Fun K "first" "first" sFirst f fd) : FnOk P w K mg base CX0 3 f fd ["cable"] (spDo S C 0 (mk0 .first)) := by
  refine F.ok scFirst (fun vs H Q E h => ?_) (fun cdv A outer s H vs Q E hr h => ?_)
  · obtain ⟨cab, l, as, c, args, hl, rfl, _⟩ := h
    show (nV args).length + 1 = 1
    rw [nV_len, hl]
  · obtain ⟨cab, l, as, c, args, hl, rfl, hc, hg, k⟩ := h
    obtain rfl := len0 hl
    obtain ⟨o1, o2⟩ := first_out c
    rw [show outC c (mk0 .first []) = c from o1, show outA c (mk0 .first []) = _ from o2] at k
    have hr1 : Room 1 _ := hr.mono (by decide)
    obtain ⟨dx, hx⟩ := hc.ins
    refine ⟨_, pss_cons (ps_if (pt_cmpR op_lt (pe_op op_sub (pf (K := K) 0) (pf (K := K) 0)) pe_int (nomark _)) (pss_one (ps_ret (pe_lst (pa_cons (pe_ci T.mNoAnswer) pa_nil)))) pss_nil)
      (pss_cons (ps_set (i := 1) scFirst.nd rfl (Or.inl rfl) (pe_cl dP hr1 (pa_cons (pv 0) pa_nil)))
      (pss_one (ps_ret (pe_lst (pa_cons (pe_cl dO hr (pa_cons (pe_cl dB hr (pa_cons (pv 1) pa_nil)) (pa_cons (pv 1) (pa_cons (pf (K := K) 0) (pa_cons (pf (K := K) 0) pa_nil))))) pa_nil))))), ?_⟩
    refine ⟨_, rfl, cab, C, dx, _, _, rfl, hx, T.clC, T.naH, rfl, _, rfl, cab, C, dx, _, _, rfl, hx, T.clC, T.naL, rfl, _, _, rfl, rfl, _, _, rfl, rfl, _, rfl, ite2 (fun h1 => ?_) fun h1 => ?_⟩
    · have z := of_decide_eq_true h1
      have hft := hg.ft
      refine ⟨by show 1 ≤ sizeLine; decide, fun q hq => k _ q l as (After.same hc (same_upd hq)) hq ?_⟩
      rw [upd_same, first_none c (by omega)]
      rfl
    · have hz : ¬ ((c.to : Int) - (c.from_ : Int) < 2) := fun z => h1 (decide_eq_true z)
      have h10 := hg.n10
      have htn := hg.tn
      refine ⟨_, rfl, cab, l, as, c, rfl, hc, hg, fun H1 q1 e1 hq1 hl1 => ?_⟩
      refine ⟨_, rfl, q1, prices c, rfl, hl1, by rw [prices_len]; exact h10, fun H2 d kvs e2 hd hd2 has => ?_⟩
      obtain ⟨dx2, hx2⟩ := (hc.same (e1.trans e2)).ins
      refine ⟨_, rfl, _, rfl, cab, C, dx2, _, _, rfl, hx2, T.clC, T.naL, rfl, _, rfl, cab, C, dx2, _, _, rfl, hx2, T.clC, T.naH, rfl, d, q1, kvs, prices c, c.from_, c.to, rfl, hd2, e2 _ _ hl1, by omega, by rw [prices_len]; exact htn, by rw [prices_len]; omega,
        fun a b h1 h2 h3 h4 => has a b h2 (by rw [prices_len]; omega), fun H3 j e3 hj hj2 hno => ?_⟩
      have e4 := (e1.trans e2).trans e3
      refine ⟨by show 1 ≤ sizeLine; decide, fun q hq => k _ q l as (After.same hc (e4.trans (same_upd hq))) (e4.free hq) ?_⟩
      rw [upd_same, first_of c j hg.to11 hj hj2 hno]
      rfl
/-! ### can_be_opened, would -/
def canB (c : Kp243.Cable) (i : Nat) : Bool := decide (c.from_ ≤ i) && decide (i + 1 < c.to)
theorem canB_iff (c : Kp243.Cable) (i : Nat) : canB c i = true ↔ c.from_ ≤ i ∧ i + 1 < c.to := by
  unfold canB
  simp only [Bool.and_eq_true, decide_eq_true_eq]
theorem canB_not {c : Kp243.Cable} {i : Nat} (h : (!canB c i) = true) : ¬ (c.from_ ≤ i ∧ i + 1 < c.to) := fun z => by
  rw [(canB_iff c i).mpr z] at h
  cases h
theorem canB_yes {c : Kp243.Cable} {i : Nat} (h : ¬ (!canB c i) = true) : c.from_ ≤ i ∧ i + 1 < c.to := by
  refine (canB_iff c i).mp ?_
  cases e : canB c i with
  | true => rfl
  | false => rw [e] at h; exact absurd rfl h
theorem choices_no {c : Kp243.Cable} {i : Nat} (h : ¬ (c.from_ ≤ i ∧ i + 1 < c.to)) : (Kp243.choices c).contains i = false := by
  cases q : (Kp243.choices c).contains i with
  | false => rfl
  | true => exact absurd ((choices_mem c i).mp q) h
def spCan (S C : Addr) : Sp := fun vs H Q _ => ∃ cab l as c i, vs = [.ref cab, .int (i : Nat)] ∧ CabAt S C H cab l as c ∧ Q (.bl (canB c i)) H
theorem scCan : FnScope ["cable", "i"] ["cable", "i"] (defScope sCan) := ⟨rfl, rfl, rfl, by decide +kernel, rfl, by decide +kernel, by decide +kernel⟩
theorem ok_can {f : Addr} {fd : FuncData} (T : Txt K mg S C) (F : Fun K "can_be_opened" "can_be_opened" sCan f fd) : FnOk P w K mg base CX0 1 f fd ["cable", "i"] (spCan S C) := by
  refine F.ok scCan (fun vs H Q E h => ?_) (fun cdv A outer s H vs Q E hr h => ?_)
  · obtain ⟨cab, l, as, c, i, rfl, _⟩ := h
    rfl
  · obtain ⟨cab, l, as, c, i, rfl, hc, k⟩ := h
    obtain ⟨dx, hx⟩ := hc.ins
    refine ⟨_, pss_one (ps_ret (pe_and (pe_cmpR op_le (pf (K := K) 0) (pv 1) (nomark _)) (pe_one (pe_cmpR op_lt (pe_op op_add (pv 1) pe_int) (pf (K := K) 0) (nomark _))))), ?_⟩
    refine ⟨_, rfl, cab, C, dx, _, _, rfl, hx, T.clC, T.naL, rfl, _, rfl, _, _, rfl, rfl, _, rfl, ?_⟩
    rw [dec_le]
    unfold canB at k
    refine ite2 (fun h1 => ?_) fun h1 => ?_
    · refine ⟨_, rfl, _, _, rfl, rfl, _, rfl, cab, C, dx, _, _, rfl, hx, T.clC, T.naH, rfl, _, _, rfl, rfl, ?_⟩
      rw [h1] at k
      show Q (.bl (decide (((i + 1 : Nat) : Int) < (c.to : Int)))) H
      rw [dec_lt]
      exact k
    · rw [Bool.eq_false_iff.mpr h1] at k
      exact k
theorem d_can {f : Addr} (T : Txt K mg S C) (F : TF K mg "can_be_opened" sCan f) : Def P w K mg base 1 "can_be_opened" ["cable", "i"] (spCan S C) :=
  F.def (fun _ => ok_can T) fun _ _ _ _ _ _ us hl => match us, hl with | [_, _], _ => rfl
theorem would_out (c : Kp243.Cable) (i : Nat) : outC c (.would i) = c ∧ outA c (.would i) = if c.from_ ≤ i ∧ i + 1 < c.to then [(Kp243.cost c i : Int), ((i + 1 - c.from_ : Nat) : Int), ((c.to - (i + 1) : Nat) : Int)] else [-2] := by
  unfold outC outA Kp243.step
  refine ⟨rfl, ?_⟩
  simp only
  by_cases h : c.from_ ≤ i ∧ i + 1 < c.to
  · have e := (choices_mem c i).mpr h
    rw [if_pos h, if_neg (by rw [e]; simp)]
    rfl
  · rw [if_neg h, if_pos (choices_no h)]
    rfl
def mkW : List Nat → Kp243.Call | [i] => .would i | _ => .sums
theorem scWould : FnScope ["cable", "i", "prices", "costs"] ["cable", "i"] (defScope sWould) := ⟨rfl, rfl, rfl, by decide +kernel, rfl, by decide +kernel, by decide +kernel⟩
theorem ok_would {f : Addr} {fd : FuncData} (T : Txt K mg S C) (dN : Def P w K mg base 1 "can_be_opened" ["cable", "i"] (spCan S C)) (dP : Def P w K mg base 1 "prices_of" ["cable"] (spPrices S C)) (dB : Def P w K mg base 2 "best_costs" ["prices"] spBest)
    (dC : Def P w K mg base 1 "costs_by_first" ["best", "prices", "low", "high"] spCosts) (F : Fun K "would" "would" sWould f fd) : FnOk P w K mg base CX0 3 f fd ["cable", "i"] (spDo S C 1 mkW) := by
  refine F.ok scWould (fun vs H Q E h => ?_) (fun cdv A outer s H vs Q E hr h => ?_)
  · obtain ⟨cab, l, as, c, args, hl, rfl, _⟩ := h
    show (nV args).length + 1 = 2
    rw [nV_len, hl]
  · obtain ⟨cab, l, as, c, args, hl, rfl, hc, hg, k⟩ := h
    obtain ⟨i, rfl⟩ := len1 hl
    obtain ⟨o1, o2⟩ := would_out c i
    rw [show outC c (mkW [i]) = c from o1, show outA c (mkW [i]) = _ from o2] at k
    have hr1 : Room 1 _ := hr.mono (by decide)
    refine ⟨_, pss_cons (ps_if (pt_not (pt_val (pe_cl dN hr1 (pa_cons (pv 0) (pa_cons (pv 1) pa_nil))))) (pss_one (ps_ret (pe_lst (pa_cons (pe_ci T.mNoSuch) pa_nil)))) pss_nil)
      (pss_cons (ps_set (i := 2) scWould.nd rfl (Or.inl rfl) (pe_cl dP hr1 (pa_cons (pv 0) pa_nil)))
      (pss_cons (ps_set (i := 3) scWould.nd rfl (Or.inl rfl) (pe_cl dC hr1 (pa_cons (pe_cl dB hr (pa_cons (pv 2) pa_nil)) (pa_cons (pv 2) (pa_cons (pf (K := K) 0) (pa_cons (pf (K := K) 0) pa_nil))))))
      (pss_one (ps_ret (pe_lst (pa_cons (pxl (K := K) (pv 3) (pe_op op_sub (pv 1) (pf (K := K) 0)))
        (pa_cons (pe_op op_sub (pe_op op_add (pv 1) pe_int) (pf (K := K) 0)) (pa_cons (pe_op op_sub (pe_op op_sub (pf (K := K) 0) (pv 1)) pe_int) pa_nil)))))))), ?_⟩
    refine ⟨_, rfl, _, rfl, cab, l, as, c, i, rfl, hc, _, rfl, ?_⟩
    refine ite2 (fun h1 => ?_) fun h1 => ?_
    · have hn := canB_not h1
      refine ⟨by show 1 ≤ sizeLine; decide, fun q hq => k _ q l as (After.same hc (same_upd hq)) hq ?_⟩
      rw [upd_same, if_neg hn]
      rfl
    · obtain ⟨a1, a2⟩ := canB_yes h1
      have h10 := hg.n10
      have htn := hg.tn
      refine ⟨_, rfl, cab, l, as, c, rfl, hc, hg, fun H1 q1 e1 hq1 hl1 => ?_⟩
      refine ⟨_, rfl, q1, prices c, rfl, hl1, by rw [prices_len]; exact h10, fun H2 d kvs e2 hd hd2 has => ?_⟩
      obtain ⟨dx2, hx2⟩ := (hc.same (e1.trans e2)).ins
      refine ⟨_, rfl, _, rfl, cab, C, dx2, _, _, rfl, hx2, T.clC, T.naL, rfl, _, rfl, cab, C, dx2, _, _, rfl, hx2, T.clC, T.naH, rfl, d, q1, kvs, prices c, c.from_, c.to, rfl, hd2, e2 _ _ hl1, hg.ft, by rw [prices_len]; exact htn, by rw [prices_len]; omega,
        fun a b h1 h2 h3 h4 => has a b h2 (by rw [prices_len]; omega), fun H3 q3 e3 hq3 hl3 => ?_⟩
      have e4 := (e1.trans e2).trans e3
      obtain ⟨dx3, hx3⟩ := (hc.same e4).ins
      have hat : (costsW (prices c) c.from_ c.to)[i - c.from_]? = some (Kp243.cost c i) := by
        rw [cost_at c (i - c.from_) hg.to11 (by omega), show c.from_ + (i - c.from_) = i by omega]
      refine ⟨_, rfl, _, rfl, _, rfl, cab, C, dx3, _, _, rfl, hx3, T.clC, T.naL, rfl, _, _, rfl, rfl, q3, _, _, _, rfl, rfl, SqL.of hl3, at_of (j := i - c.from_) (by dsimp only; omega) (nV_get hat), ?_⟩
      refine ⟨_, rfl, _, _, rfl, rfl, _, rfl, cab, C, dx3, _, _, rfl, hx3, T.clC, T.naL, rfl, _, _, rfl, rfl, ?_⟩
      refine ⟨_, rfl, cab, C, dx3, _, _, rfl, hx3, T.clC, T.naH, rfl, _, rfl, _, _, rfl, rfl, _, _, rfl, rfl, by show 3 ≤ sizeLine; decide, fun q hq => ?_⟩
      refine k _ q l as (After.same hc (e4.trans (same_upd hq))) (e4.free hq) ?_
      rw [upd_same, if_pos ⟨a1, a2⟩]
      have e1 : (i : Int) + 1 - (c.from_ : Int) = ((i + 1 - c.from_ : Nat) : Int) := by omega
      have e2 : (c.to : Int) - (i : Int) - 1 = ((c.to - (i + 1) : Nat) : Int) := by omega
      dsimp only
      rw [e1, e2]
      rfl
/-! ### fewest -/
theorem WF_shift {pr pr' : List Nat} (d : Nat) : ∀ (n a b : Nat), (∀ k, a ≤ k → k < b → pr.getD (k + d) 0 = pr'.getD k 0) → WF pr n (a + d) (b + d) = WF pr' n a b
  | 0, _, _, _ => rfl
  | n + 1, a, b, h => by
    show minOr _ = minOr _
    rw [show b + d - (a + d) - 1 = b - a - 1 by omega]
    refine congrArg minOr (List.map_congr_left fun k hk => ?_)
    have hk' := List.mem_range.mp hk
    have h1 := h (a + k) (by omega) (by omega)
    have h2 := WF_shift d n a (a + k + 1) fun j j1 j2 => h j j1 (by omega)
    have h3 := WF_shift d n (a + k + 1) b fun j j1 j2 => h j (by omega) j2
    rw [show a + d + k = a + k + d by omega, h1, show a + k + d + 1 = a + k + 1 + d by omega, h2, h3]
theorem rep_getD (n k : Nat) (h : k < n) : (List.replicate n 1).getD k 0 = 1 := by
  rw [List.getD_eq_getElem?_getD, List.getElem?_replicate, if_pos h]
  rfl
theorem fewest_Wst (c : Kp243.Cable) (g : Good c) : Kp243.fewest c = Wst (List.replicate (c.to - c.from_) 1) 0 (c.to - c.from_) := by
  have h1 := g.ft
  have h2 := g.tn
  have e : Kp243.fewest c = Wst (prices (Kp243.alike c)) c.from_ c.to := least_Wst (Kp243.alike c) g.to11
  rw [e, prices_alike]
  unfold Wst
  have q := WF_shift (pr := List.replicate (Kp243.size c) 1) (pr' := List.replicate (c.to - c.from_) 1) c.from_ (c.to - c.from_) 0 (c.to - c.from_) fun k _ hk => by
    rw [rep_getD _ _ (by omega), rep_getD _ _ hk]
  rw [Nat.zero_add, show c.to - c.from_ + c.from_ = c.to by omega] at q
  rw [Nat.sub_zero]
  exact q
theorem flat_rep (n : Nat) : (List.replicate n [V.int 1]).flatten = nV (List.replicate n 1) := by
  induction n with
  | zero => rfl
  | succ n ih =>
    rw [List.replicate_succ, List.flatten_cons, ih, List.replicate_succ]
    rfl
theorem scFewest : FnScope ["cable", "size"] ["cable"] (defScope sFewest) := ⟨rfl, rfl, rfl, by decide +kernel, rfl, by decide +kernel, by decide +kernel⟩
theorem ok_fewest {f : Addr} {fd : FuncData} (T : Txt K mg S C) (dB : Def P w K mg base 2 "best_costs" ["prices"] spBest) (F : Fun K "fewest" "fewest" sFewest f fd) : FnOk P w K mg base CX0 3 f fd ["cable"] (spDo S C 0 (mk0 .fewest)) := by
  refine F.ok scFewest (fun vs H Q E h => ?_) (fun cdv A outer s H vs Q E hr h => ?_)
  · obtain ⟨cab, l, as, c, args, hl, rfl, _⟩ := h
    show (nV args).length + 1 = 1
    rw [nV_len, hl]
  · obtain ⟨cab, l, as, c, args, hl, rfl, hc, hg, k⟩ := h
    obtain rfl := len0 hl
    have hu := hu_of hr
    obtain ⟨dx, hx⟩ := hc.ins
    have h10 := hg.n10
    have htn := hg.tn
    have hft := hg.ft
    refine ⟨_, pss_cons (ps_set (i := 1) scFewest.nd rfl (Or.inl rfl) (pe_op op_sub (pf (K := K) 0) (pf (K := K) 0)))
      (pss_one (ps_ret (pe_lst (pa_cons (pe_dget hu (pe_cl dB hr (pa_cons (pe_op op_rep (pe_lst (pa_cons pe_int pa_nil)) (pv 1)) pa_nil)) (pe_tup (pa_cons pe_int (pa_cons (pv 1) pa_nil))) (fun _ _ => rfl)) pa_nil)))), ?_⟩
    refine ⟨_, rfl, cab, C, dx, _, _, rfl, hx, T.clC, T.naH, rfl, _, rfl, cab, C, dx, _, _, rfl, hx, T.clC, T.naL, rfl, _, _, rfl, rfl, ?_⟩
    dsimp only
    rw [show (c.to : Int) - (c.from_ : Int) = ((c.to - c.from_ : Nat) : Int) by omega]
    generalize hn : c.to - c.from_ = n
    have hn10 : n ≤ 10 := by omega
    refine ⟨by show 1 ≤ sizeLine; decide, fun l1 hl1 => ?_⟩
    have e1 : Same H (upd H l1 (.lst [.int 1])) := same_upd hl1
    refine ⟨_, rfl, l1, (n : Int), _, rfl, rfl, upd_same, by omega, by omega, ?_, fun p hp => ?_⟩
    · show 1 * (n : Int).toNat ≤ sizeLine
      exact Nat.le_of_lt (small1000 (by omega))
    rw [Int.toNat_natCast, flat_rep]
    have e2 := e1.trans (same_upd (o := .lst (nV (List.replicate n 1))) hp)
    refine ⟨p, List.replicate n 1, rfl, upd_same, by rw [List.length_replicate]; exact hn10, fun H2 d kvs e3 hd hd2 has => ?_⟩
    refine ⟨_, rfl, by show 2 ≤ sizeLine; decide, fun t ht => ?_⟩
    have e4 := (e2.trans e3).trans (same_upd (o := .tup [.int 0, .int (n : Nat)]) ht)
    have hw : Has kvs (List.replicate n 1) 0 n := has 0 n (Nat.zero_le _) (by rw [List.length_replicate]; exact Nat.le_refl _)
    refine ⟨d, V.int (Wst (List.replicate n 1) 0 n : Nat), rfl, ?_, ?_⟩
    · have g := DGet.t (k := ky 0 n) (b := t) (same_upd ht _ _ hd2) upd_same
      rw [show valV kvs (ky 0 n) = _ from hw] at g
      exact g
    refine ⟨by show 1 ≤ sizeLine; decide, fun q hq => k _ q l as (After.same hc (e4.trans (same_upd hq))) (e4.free hq) ?_⟩
    have ew := fewest_Wst c hg
    rw [hn] at ew
    rw [upd_same, ← ew]
    rfl
/-! ### spends -/
theorem spends_out (c : Kp243.Cable) (g : Good c) (t : Nat) : outC c (.spends t) = c ∧ outA c (.spends t) = if c.from_ ≤ t ∧ t < c.to then [(spent c t : Int)] else [-2] := by
  unfold outC outA Kp243.step
  refine ⟨rfl, ?_⟩
  simp only
  by_cases h : c.from_ ≤ t ∧ t < c.to
  · have e := (now_mem c g.ft g.tn t).mpr h
    rw [if_pos h, if_neg (by rw [e]; simp)]
    rfl
  · have e : (Kp243.now c).contains t = false := by
      cases q : (Kp243.now c).contains t with
      | false => rfl
      | true => exact absurd ((now_mem c g.ft g.tn t).mp q) h
    rw [if_neg h, if_pos e]
    rfl
def mkP : List Nat → Kp243.Call | [t] => .spends t | _ => .sums
theorem scSpends : FnScope ["cable", "t", "low", "high", "prices", "best", "total", "i"] ["cable", "t"] (defScope sSpends) := ⟨rfl, rfl, rfl, by decide +kernel, rfl, by decide +kernel, by decide +kernel⟩
theorem ok_spends {f : Addr} {fd : FuncData} (T : Txt K mg S C) (dP : Def P w K mg base 1 "prices_of" ["cable"] (spPrices S C)) (dB : Def P w K mg base 2 "best_costs" ["prices"] spBest) (dO : Def P w K mg base 2 "opens_first" ["best", "prices", "low", "high"] spOF)
    (F : Fun K "spends" "spends" sSpends f fd) : FnOk P w K mg base CX0 3 f fd ["cable", "t"] (spDo S C 1 mkP) := by
  refine F.ok scSpends (fun vs H Q E h => ?_) (fun cdv A outer s H vs Q E hr h => ?_)
  · obtain ⟨cab, l, as, c, args, hl, rfl, _⟩ := h
    show (nV args).length + 1 = 2
    rw [nV_len, hl]
  · obtain ⟨cab, l, as, c, args, hl, rfl, hc, hg, k⟩ := h
    obtain ⟨t, rfl⟩ := len1 hl
    obtain ⟨o1, o2⟩ := spends_out c hg t
    rw [show outC c (mkP [t]) = c from o1, show outA c (mkP [t]) = _ from o2] at k
    have hr1 : Room 1 _ := hr.mono (by decide)
    obtain ⟨dx, hx⟩ := hc.ins
    have h10 := hg.n10
    have htn := hg.tn
    have hft := hg.ft
    refine ⟨_, pss_cons (ps_set (i := 2) scSpends.nd rfl (Or.inl rfl) (pf (K := K) 0))
      (pss_cons (ps_set (i := 3) scSpends.nd rfl (Or.inl rfl) (pf (K := K) 0))
      (pss_cons (ps_if (PW.pt (pw_or (pt_cmpR op_lt (pv 1) (pv 2) (nomark _)) (pw_or1 (pt_cmpR op_ge (pv 1) (pv 3) (nomark _))))) (pss_one (ps_ret (pe_lst (pa_cons (pe_ci T.mNoSuch) pa_nil)))) pss_nil)
      (pss_cons (ps_set (i := 4) scSpends.nd rfl (Or.inl rfl) (pe_cl dP hr1 (pa_cons (pv 0) pa_nil)))
      (pss_cons (ps_set (i := 5) scSpends.nd rfl (Or.inl rfl) (pe_cl dB hr (pa_cons (pv 4) pa_nil)))
      (pss_cons (ps_set (i := 6) scSpends.nd rfl (Or.inl rfl) pe_int)
      (pss_cons (ps_while PassesOwn.never (pt_cmpR op_gt (pe_op op_sub (pv 3) (pv 2)) pe_int (nomark _))
        (pss_cons (ps_set (i := 7) scSpends.nd rfl (Or.inl rfl) (pe_cl dO hr (pa_cons (pv 5) (pa_cons (pv 4) (pa_cons (pv 2) (pa_cons (pv 3) pa_nil))))))
        (pss_cons (ps_aug (i := 6) scSpends.nd rfl (Or.inl rfl) (pxl (K := K) (pv 4) (pv 7)) ip_add)
        (pss_one (ps_if (pt_cmpR op_le (pv 1) (pv 7) (nomark _)) (pss_one (ps_set (i := 3) scSpends.nd rfl (Or.inl rfl) (pe_op op_add (pv 7) pe_int))) (pss_one (ps_set (i := 2) scSpends.nd rfl (Or.inl rfl) (pe_op op_add (pv 7) pe_int))))))))
      (pss_one (ps_ret (pe_lst (pa_cons (pv 6) pa_nil)))))))))), ?_⟩
    refine ⟨_, rfl, cab, C, dx, _, _, rfl, hx, T.clC, T.naL, rfl, ?_⟩
    refine ⟨_, rfl, cab, C, dx, _, _, rfl, hx, T.clC, T.naH, rfl, ?_⟩
    have no : ∀ (hn : ¬ (c.from_ ≤ t ∧ t < c.to)) q, H q = none → Q (.ref q) (upd H q (.lst [.int (-2)])) := fun hn q hq => by
      refine k _ q l as (After.same hc (same_upd hq)) hq ?_
      rw [upd_same, if_neg hn]
      rfl
    refine ⟨_, rfl, _, rfl, _, _, rfl, rfl, _, rfl, ?_⟩
    rw [dec_lt]
    refine ite2 (fun h1 => ?_) fun h1 => ?_
    · refine iteT ⟨by show 1 ≤ sizeLine; decide, no ?_⟩
      have := of_decide_eq_true h1
      omega
    have a1 : c.from_ ≤ t := by
      by_cases z : t < c.from_
      · exact absurd (decide_eq_true z) h1
      · omega
    refine ⟨_, rfl, _, rfl, _, _, rfl, rfl, _, rfl, ?_⟩
    rw [dec_le]
    refine ite2 (fun h2 => ?_) fun h2 => ?_
    · refine ⟨by show 1 ≤ sizeLine; decide, no ?_⟩
      have := of_decide_eq_true h2
      omega
    have a2 : t < c.to := by
      by_cases z : c.to ≤ t
      · exact absurd (decide_eq_true z) h2
      · omega
    rw [if_pos ⟨a1, a2⟩] at k
    refine ⟨_, rfl, cab, l, as, c, rfl, hc, hg, fun H1 p e1 hp hl1 => ?_⟩
    refine ⟨_, rfl, p, prices c, rfl, hl1, by rw [prices_len]; exact h10, fun H2 d kvs e2 hd hd2 has => ?_⟩
    have hl2 := e2 _ _ hl1
    refine while_by (fun σ H' => ∃ (lo hi tot : Nat) (v7 : Option V), σ = [some (.ref cab), some (.int (t : Nat)), some (.int (lo : Nat)), some (.int (hi : Nat)), some (.ref p), some (.ref d), some (.int (tot : Nat)), v7] ∧
        c.from_ ≤ lo ∧ hi ≤ c.to ∧ lo ≤ t ∧ t < hi ∧ tot + spent { c with from_ := lo, to := hi } t = spent c t ∧ Same H2 H')
      (fun σ _ => match σ with | [_, _, some (.int i), some (.int j), _, _, _, _] => (j - i).toNat | _ => 0) ?_ ?_ ?_
    · exact ⟨c.from_, c.to, 0, none, rfl, Nat.le_refl _, Nat.le_refl _, a1, a2, by rw [Nat.zero_add], fun b o e => e⟩
    · rintro σ H3 ⟨lo, hi, tot, v7, rfl, b1, b2, b3, b4, b5, e3⟩
      refine ⟨_, rfl, _, rfl, _, _, rfl, rfl, _, _, rfl, rfl, _, rfl, ite2 (fun h3 => ?_) fun h3 => ?_⟩
      · have z := of_decide_eq_true h3
        have hlt : lo + 1 < hi := by omega
        have hw : hi ≤ lo + 11 := by omega
        refine ⟨_, rfl, _, rfl, _, rfl, _, rfl, d, p, kvs, prices c, lo, hi, rfl, e3 _ _ hd2, e3 _ _ hl2, hlt, by rw [prices_len]; omega, by rw [prices_len]; omega, fun a b h1 h2 h3 h4 => has a b h2 (by rw [prices_len]; omega), fun H4 j e4 hj hj2 hno => ?_⟩
        have hfst := first_of { c with from_ := lo, to := hi } j hw hj hj2 hno
        have hst := spent_step { c with from_ := lo, to := hi } t hw hfst (Nat.le_add_right _ _) (by show lo + j + 1 < hi; omega)
        have hsz : lo + j < Kp243.size c := by omega
        have hpr : (prices c)[lo + j]? = some ((Kp243.at_ c (lo + j)).opens) := by
          rw [at_opens, List.getD_eq_getElem?_getD, List.getElem?_eq_getElem (by rw [prices_len]; exact hsz)]
          rfl
        have e34 := e3.trans e4
        refine ⟨_, rfl, _, rfl, _, rfl, p, _, _, _, rfl, rfl, SqL.of (e34 _ _ hl2), atI_nat (nV_get hpr), _, _, rfl, rfl, ?_⟩
        dsimp only
        rw [show (tot : Int) + ((Kp243.at_ c (lo + j)).opens : Int) = ((tot + (Kp243.at_ c (lo + j)).opens : Nat) : Int) by omega]
        refine ⟨_, rfl, _, rfl, _, _, rfl, rfl, _, rfl, ?_⟩
        rw [dec_le]
        have hst' : spent { c with from_ := lo, to := hi } t = (Kp243.at_ c (lo + j)).opens + if t ≤ lo + j then spent { c with from_ := lo, to := lo + j + 1 } t else spent { c with from_ := lo + j + 1, to := hi } t := hst
        refine ite2 (fun h4 => ?_) fun h4 => ?_
        · have h4' : t ≤ lo + j := of_decide_eq_true h4
          rw [if_pos h4'] at hst'
          refine ⟨_, rfl, _, _, rfl, rfl, ?_⟩
          refine ⟨⟨lo, lo + j + 1, tot + (Kp243.at_ c (lo + j)).opens, _, rfl, b1, by omega, b3, by omega, by omega, e34⟩, ?_⟩
          show (((lo + j : Nat) : Int) + 1 - (lo : Int)).toNat < ((hi : Int) - (lo : Int)).toNat
          omega
        · have h4' : ¬ t ≤ lo + j := fun z => h4 (decide_eq_true z)
          rw [if_neg h4'] at hst'
          refine ⟨_, rfl, _, _, rfl, rfl, ?_⟩
          refine ⟨⟨lo + j + 1, hi, tot + (Kp243.at_ c (lo + j)).opens, _, rfl, by omega, b2, by omega, b4, by omega, e34⟩, ?_⟩
          show ((hi : Int) - (((lo + j : Nat) : Int) + 1)).toNat < ((hi : Int) - (lo : Int)).toNat
          omega
      · have z : ¬ ((1 : Int) < (hi : Int) - (lo : Int)) := fun z => h3 (decide_eq_true z)
        have hs1 := spent_one { c with from_ := lo, to := hi } t (by show hi ≤ lo + 1; omega)
        have e4 := (e1.trans e2).trans e3
        refine ⟨_, rfl, by show 1 ≤ sizeLine; decide, fun q hq => k _ q l as (After.same hc (e4.trans (same_upd hq))) (e4.free hq) ?_⟩
        rw [upd_same, show spent c t = tot by omega]
        rfl
    · rintro σ H3 Q1 Q2 hq ⟨v, e1, v2, e2, i, j, e3, e4, i2, j2, e5, e6, b, e7, q⟩
      exact ⟨v, e1, v2, e2, i, j, e3, e4, i2, j2, e5, e6, b, e7, hq _ _ q⟩
end
end Ff


set_option Elab.async false
set_option linter.all false
set_option maxRecDepth 100000
set_option maxHeartbeats 2000000
/-! The calls one behind another. -/
namespace Ff
open PySem PySem.Spec PyProof.Rows L2
abbrev sAnswers : Stmt := top 58
/-- the cable's object stands for the state; own: its other objects -/
def StAt (S C : Addr) (H : Hp) (cab : Addr) (own : List Addr) : Kp243.State → Prop
  | none => own = [] ∧ ∃ dx l lo hi op sp, H cab = some (.ins C dx (cabF false l lo hi op sp))
  | some c => ∃ l as, own = l :: as ∧ CabAt S C H cab l as c ∧ Good c
/-- all but the cable's objects is kept, and does not become one of them -/
def Kept (H H' : Hp) (cab : Addr) (own own' : List Addr) : Prop := ∀ b o, H b = some o → b ≠ cab → b ∉ own → H' b = some o ∧ b ∉ own'
def spAnswer (S C : Addr) : Sp := fun vs H Q _ => ∃ (cab g : Addr) (own : List Addr) (st : Kp243.State) (j : Nat) (args : List Nat) (x : Kp243.Call), vs = [.ref cab, .int (j : Nat), .ref g] ∧ H g = some (.lst (nV args)) ∧ callN j args = some x ∧ StAt S C H cab own st ∧ g ∉ own ∧
  ∀ H' q own', StAt S C H' cab own' (Kp243.step st x).1 → Kept H H' cab own own' → H q = none → H' q = some (.lst ((ansL st x).map V.int)) → Q (.ref q) H'
section
variable {P : Program} {w : World} {K : PySem.W.Frag} {mg : Str → Option Value} {base : Heap} {S C : Addr}
def spCabInit (C : Addr) : Sp := fun vs H Q _ => ∃ p dx, vs = [.ref p] ∧ H p = some (.ins C dx []) ∧ ∀ H' l, H l = none → H' p = some (.ins C dx (cabF false l 0 0 0 0)) → (∀ b o, H b = some o → b ≠ p → H' b = some o) → Q .non H'
theorem scCabInit : FnScope ["self"] ["self"] (defScope sCabInit) := ⟨rfl, rfl, rfl, by decide +kernel, rfl, by decide +kernel, by decide +kernel⟩
theorem ok_cab_init {f : Addr} {fd : FuncData} (T : Txt K mg S C) (F : Fun K "__init__" "Cable.__init__" sCabInit f fd) : FnOk P w K mg base CX0 1 f fd ["self"] (spCabInit C) := by
  refine F.ok scCabInit (fun vs H Q E h => ?_) (fun cdv A outer s H vs Q E hr h => ?_)
  · obtain ⟨p, dx, rfl, _⟩ := h
    rfl
  · obtain ⟨p, dx, rfl, hp, k⟩ := h
    refine ⟨_, pss_cons (ps_fld (pv 0) pe_bl rfl) (pss_cons (ps_fld (pv 0) (pe_lst pa_nil) rfl) (pss_cons (ps_fld (pv 0) pe_int rfl) (pss_cons (ps_fld (pv 0) pe_int rfl) (pss_cons (ps_fld (pv 0) pe_int rfl) (pss_one (ps_fld (pv 0) pe_int rfl)))))), ?_⟩
    refine ⟨_, rfl, p, C, dx, _, rfl, hp, T.clC, T.naB, by show 0 < 1000; decide, Nat.zero_le _, fun l hl => ?_⟩
    have npl : p ≠ l := ne_of_none upd_same hl
    refine ⟨_, rfl, p, C, dx, _, rfl, by rw [upd_ne npl]; exact upd_same, T.clC, T.naS, by show 1 < 1000; decide, ?_⟩
    refine ⟨_, rfl, p, C, dx, _, rfl, upd_same, T.clC, T.naL, by show 2 < 1000; decide, ?_⟩
    refine ⟨_, rfl, p, C, dx, _, rfl, upd_same, T.clC, T.naH, by show 3 < 1000; decide, ?_⟩
    refine ⟨_, rfl, p, C, dx, _, rfl, upd_same, T.clC, T.naN, by show 4 < 1000; decide, ?_⟩
    refine ⟨_, rfl, p, C, dx, _, rfl, upd_same, T.clC, T.naP, by show 5 < 1000; decide, ?_⟩
    have hlH : H l = none := by rw [upd_ne npl.symm] at hl; exact hl
    refine k _ l hlH ?_ fun b o e hb => ?_
    · rw [upd_same]; rfl
    · rw [upd_ne hb, upd_ne hb, upd_ne hb, upd_ne hb, upd_ne hb, upd_ne (ne_of_none e hlH), upd_ne hb]; exact e
/-- answers: the specification's list -/
def spAnswers (K : PySem.W.Frag) : Sp := fun vs H Q _ => ∃ (a : Addr) (ns : List Int), vs = [.ref a] ∧ OnlyF H ∧ SqL K H a (ns.map V.int) ∧ ns.length ≤ 320 ∧ PyKp243.answers_asked ns = true ∧ ∀ (H' : Hp) (p : Addr), H' p = some (.lst ((PyKp243.answers ns).map V.int)) → Q (.ref p) H'
theorem scAnswers : FnScope ["calls", "cable", "told", "at", "after", "numbers"] ["calls"] (defScope sAnswers) := ⟨rfl, rfl, rfl, by decide +kernel, rfl, by decide +kernel, by decide +kernel⟩
theorem sq_keep {H H' : Hp} {a : Addr} {xs : List V} (h : SqL K H a xs) (k : ∀ o, H a = some o → H' a = some o) : SqL K H' a xs := by
  rcases h with (h | ⟨o, h⟩) | h
  · exact .inl (.inl (k _ h))
  · exact .inl (.inr ⟨o, k _ h⟩)
  · exact .inr h
/-- no answer is long -/
theorem ans_len {st : Kp243.State} (g : GoodS st) (x : Kp243.Call) : (ansL st x).length ≤ 11 := by
  have one : ∀ v : Int, ((Kp243.say v).num :: (Kp243.say v).nums).length ≤ 11 := fun v => by show 1 ≤ 11; omega
  unfold ansL
  cases st with
  | none => cases x <;> exact one _
  | some c =>
    have g : Good c := g
    cases x with
    | where_ =>
      show (Kp243.ints (Kp243.now c)).length + 1 ≤ 11
      unfold Kp243.ints
      rw [List.length_map]
      have := now_len g
      omega
    | _ =>
      unfold Kp243.step
      dsimp only
      repeat' split
      all_goals first
        | exact one _
        | (show 2 ≤ 11; omega)
        | (show 3 ≤ 11; omega)
        | (show 5 ≤ 11; omega)
theorem CabAt.keep {H H' : Hp} {cab l : Addr} {as : List Addr} {c : Kp243.Cable} (h : CabAt S C H cab l as c) (k : ∀ b o, (b = cab ∨ b ∈ l :: as) → H b = some o → H' b = some o) : CabAt S C H' cab l as c := by
  obtain ⟨dx, h0⟩ := h.ins
  refine ⟨⟨dx, k _ _ (.inl rfl) h0⟩, ⟨k _ _ (.inr (List.mem_cons_self ..)) h.secs.lst, h.secs.len, fun j a q => ?_⟩, h.nd⟩
  obtain ⟨s, q1, dz, q2⟩ := h.secs.at_ j a q
  exact ⟨s, q1, dz, k _ _ (.inr (List.mem_cons_of_mem _ (List.mem_of_getElem? q))) q2⟩
theorem StAt.keep {H H' : Hp} {cab : Addr} {own : List Addr} {st : Kp243.State} (h : StAt S C H cab own st) (k : ∀ b o, (b = cab ∨ b ∈ own) → H b = some o → H' b = some o) : StAt S C H' cab own st := by
  cases st with
  | none =>
    obtain ⟨e, dx, l, lo, hi, op, sp, h⟩ := h
    exact ⟨e, dx, l, lo, hi, op, sp, k _ _ (.inl rfl) h⟩
  | some c =>
    obtain ⟨l, as, e, h, g⟩ := h
    subst e
    exact ⟨l, as, rfl, h.keep k, g⟩
theorem StAt.tracked {H : Hp} {cab : Addr} {own : List Addr} {st : Kp243.State} (h : StAt S C H cab own st) : (∃ o, H cab = some o) ∧ ∀ b ∈ own, ∃ o, H b = some o := by
  cases st with
  | none =>
    obtain ⟨e, dx, l, lo, hi, op, sp, h⟩ := h
    subst e
    exact ⟨⟨_, h⟩, fun b hb => nomatch hb⟩
  | some c =>
    obtain ⟨l, as, e, h, g⟩ := h
    subst e
    obtain ⟨dx, h0⟩ := h.ins
    refine ⟨⟨_, h0⟩, fun b hb => ?_⟩
    rcases List.mem_cons.mp hb with q | q
    · rw [q]; exact ⟨_, h.secs.lst⟩
    · obtain ⟨j, hj, e⟩ := List.getElem_of_mem q
      obtain ⟨s, _, dz, q2⟩ := h.secs.at_ j b (by rw [List.getElem?_eq_getElem hj, e])
      exact ⟨_, q2⟩
theorem StAt.cab {H : Hp} {cab : Addr} {own : List Addr} {st : Kp243.State} (h : StAt S C H cab own st) : ∃ dx fs, H cab = some (.ins C dx fs) := by
  cases st with
  | none =>
    obtain ⟨e, dx, l, lo, hi, op, sp, h⟩ := h
    exact ⟨_, _, h⟩
  | some c =>
    obtain ⟨l, as, e, h, g⟩ := h
    obtain ⟨dx, h0⟩ := h.ins
    exact ⟨_, _, h0⟩
structure Szs (K : PySem.W.Frag) (mg : Str → Option Value) : Prop where
  ex : ∃ z, mg "SIZES" = some (.ref z) ∧ ∀ H, SqT K H z (nV sizes)
theorem ok_answers {f fI : Addr} {fd fdI : FuncData} (T : Txt K mg S C) (Z : Szs K mg) (M : Mk K C fI) (GI : FnOk P w K mg base CX0 1 fI fdI ["self"] (spCabInit C)) (bI : Binds K fdI ["self"] [])
    (dA : Def P w K mg base 8 "answer" ["cable", "number", "given"] (spAnswer S C)) (F : Fun K "answers" "answers" sAnswers f fd) : FnOk P w K mg base CX0 9 f fd ["calls"] (spAnswers K) := by
  refine F.ok scAnswers (fun vs H Q E h => ?_) (fun cdv A outer s H vs Q E hr h => ?_)
  · obtain ⟨a, ns, rfl, _⟩ := h
    rfl
  · obtain ⟨a, ns, rfl, hO, hS, hlen, hask, k⟩ := h
    obtain ⟨cs0, hcs0, hall0, hans⟩ := asked_split hask
    obtain ⟨z, hz, hsz⟩ := Z.ex
    have hr2 : Room 2 _ := hr.mono (by decide)
    refine ⟨_, pss_cons (ps_set (i := 1) scAnswers.nd rfl (Or.inl rfl) (pe_make0 M GI hr2 rfl T.mgC bI .nil pass0))
      (pss_cons (ps_set (i := 2) scAnswers.nd rfl (Or.inl rfl) (pe_lst pa_nil))
      (pss_cons (ps_set (i := 3) scAnswers.nd rfl (Or.inl rfl) pe_int)
      (pss_cons (ps_while PassesOwn.never (pt_cmpR op_lt (pv 3) (plen (K := K) T.bLen (pv 0)) (nomark _))
        (pss_cons (ps_set (i := 4) scAnswers.nd rfl (Or.inl rfl) (pe_op op_add (pe_op op_add (pv 3) pe_int) (pxt (K := K) (pe_glob (v := .ref z) rfl hz rfl) (pxl (K := K) (pv 0) (pv 3)))))
        (pss_cons (ps_set (i := 5) scAnswers.nd rfl (Or.inl rfl) (pe_cl dA hr (pa_cons (pv 1) (pa_cons (pxl (K := K) (pv 0) (pv 3)) (pa_cons (pe_slice sl_list (pv 0) (po_some (pe_op op_add (pv 3) pe_int)) (po_some (pv 4))) pa_nil)))))
        (pss_cons (ps_expr (pe_bm PySem.F.plainAttrs_list PySem.F.slot_list_append PySem.F.type_list_append mt_append (pv 2) (pa_cons (plen (K := K) T.bLen (pv 5)) pa_nil)))
        (pss_cons (ps_expr (pe_bm PySem.F.plainAttrs_list PySem.F.slot_list_extend PySem.F.type_list_extend mt_extend (pv 2) (pa_cons (pv 5) pa_nil)))
        (pss_one (ps_set (i := 3) scAnswers.nd rfl (Or.inl rfl) (pv 4))))))))
      (pss_one (ps_ret (pv 2)))))), ?_⟩
    intro cab dx ncab ndx nne
    refine ⟨cab, dx, rfl, upd_same, fun H1 l0 hl0 hc1 kp1 => ⟨rfl, ?_⟩⟩
    have s1 : Same H H1 := Same.made ncab ndx kp1
    refine ⟨Nat.zero_le _, fun tl htl => ?_⟩
    have s2 : Same H1 (upd H1 tl (.lst [])) := same_upd htl
    have nct : cab ≠ tl := ne_of_none hc1 htl
    refine while_by (fun σ H' => ∃ (at_ : Nat) (v4 v5 : Option V) (out : List Int) (st : Kp243.State) (own : List Addr) (fu : Nat) (cs : List (List (List Int))),
        σ = [some (.ref a), some (.ref cab), some (.ref tl), some (.int (at_ : Nat)), v4, v5] ∧ at_ ≤ ns.length ∧ PyFlat.calls PyKp243.shape fu (ns.drop at_) = some cs ∧ (∀ c ∈ cs, CallIs c) ∧
        PyKp243.answers ns = out ++ PyFlat.told (PyFlat.played Kp243Neutral.step st cs) ∧ out.length ≤ 20 * at_ ∧ GoodS st ∧ StAt S C H' cab own st ∧ H' tl = some (.lst (out.map V.int)) ∧ tl ∉ own ∧ (∀ o, H a = some o → H' a = some o ∧ a ≠ cab ∧ a ∉ own ∧ a ≠ tl))
      (fun σ _ => match σ with | [_, _, _, some (.int i), _, _] => ns.length - i.toNat | _ => 0) ?_ ?_ ?_
    · refine ⟨0, none, none, [], none, [], ns.length, cs0, rfl, Nat.zero_le _, hcs0, hall0, hans, Nat.zero_le _, trivial, ⟨rfl, dx, l0, 0, 0, 0, 0, s2 _ _ hc1⟩, upd_same, by simp, fun o e => ⟨s2 _ _ (s1 _ _ e), ne_of_none e ncab, by simp, ne_of_none (s1 _ _ e) htl⟩⟩
    · rintro σ H2 ⟨at_, v4, v5, out, st, own, fu, cs, rfl, hat, hcs, hall, hout, hol, hgs, hst, htl2, nto, hka⟩
      have hS2 : SqL K H2 a (ns.map V.int) := sq_keep hS fun o e => (hka o e).1
      refine ⟨_, rfl, _, rfl, a, _, rfl, .inl hS2, _, _, rfl, rfl, _, rfl, ?_⟩
      rw [List.length_map, dec_lt]
      refine ite2 (fun hlt => ?_) fun hlt => ?_
      · have hlt : at_ < ns.length := of_decide_eq_true hlt
        have hd : ns.drop at_ = ns[at_] :: ns.drop (at_ + 1) := List.drop_eq_getElem_cons hlt
        rw [hd] at hcs
        obtain ⟨n, cs', f', hsh, hn, rfl, hcs'⟩ := calls_cons hcs
        obtain ⟨j, args, x, ec, hcn, hco⟩ := hall _ (List.mem_cons_self ..)
        obtain ⟨_, j', ej', hsz'⟩ := shape_size hsh
        injection ec with ec _
        injection ec with ep ea
        have ejj : j' = j := by rw [ep] at ej'; omega
        subst ejj
        rw [List.drop_drop] at hcs'
        have hpat : (ns.map V.int)[at_]? = some (.int (j' : Nat)) := by rw [List.getElem?_map, List.getElem?_eq_getElem hlt, ep]; rfl
        have hn2 : at_ + 1 + n ≤ ns.length := by rw [List.length_drop] at hn; omega
        have ntc : tl ≠ cab := fun e => by
          obtain ⟨dx', fs', hc'⟩ := hst.cab
          rw [e, hc'] at htl2
          cases htl2
        refine ⟨_, rfl, _, _, rfl, rfl, _, rfl, _, rfl, a, _, _, _, rfl, rfl, hS2, atI_nat hpat, z, _, _, _, rfl, rfl, hsz _, atI_nat (nV_get hsz'), _, _, rfl, rfl, ?_⟩
        refine ⟨_, rfl, _, rfl, _, rfl, a, _, _, _, rfl, rfl, hS2, atI_nat hpat, _, rfl, _, rfl, _, _, rfl, rfl, _, rfl, _, rfl, _, rfl, a, _, rfl, hS2, fun g hg => ?_⟩
        dsimp only
        have e1 : (at_ : Int) + 1 = ((at_ + 1 : Nat) : Int) := by omega
        have e2 : ((at_ + 1 : Nat) : Int) + (n : Nat) = ((at_ + 1 + n : Nat) : Int) := by omega
        rw [e1, e2, cut_both _ _ _ (by omega), ← List.map_drop, ← List.map_take, show at_ + 1 + n - (at_ + 1) = n by omega, ea]
        have sg : Same H2 (upd H2 g (.lst (nV args))) := same_upd hg
        refine ⟨cab, g, own, st, j', args, x, rfl, upd_same, hcn, hst.keep (fun b o _ e => sg b o e), fun hm => ?_, fun H3 q own' hst3 hkp hq hl3 => ?_⟩
        · obtain ⟨o, e⟩ := hst.tracked.2 g hm
          rw [hg] at e
          cases e
        · obtain ⟨htl3, nto3⟩ := hkp tl _ (sg _ _ htl2) ntc nto
          have nqt : q ≠ tl := fun e => by
            have z1 : upd H2 g (.lst (nV args)) q = some (.lst (out.map V.int)) := by rw [e]; exact sg _ _ htl2
            have z2 : upd H2 g (.lst (nV args)) q = none := hq
            rw [z1] at z2
            cases z2
          have hal := ans_len hgs x
          refine ⟨_, rfl, .inl ⟨rfl, _, SqL.of htl3⟩, _, rfl, q, _, rfl, .inl (SqL.of hl3), tl, _, _, rfl, rfl, htl3, ?_, ?_⟩
          · rw [List.length_map]
            exact Nat.lt_of_le_of_lt (show out.length ≤ 7000 by omega) (by decide)
          refine ⟨_, rfl, .inl ⟨rfl, _, SqL.of upd_same⟩, _, rfl, tl, q, _, _, rfl, rfl, upd_same, by rw [upd_ne nqt]; exact hl3, ?_, ?_⟩
          · rw [List.length_append, List.length_map, List.length_map, List.length_singleton]
            exact Nat.le_of_lt (Nat.lt_of_le_of_lt (show out.length + 1 + (ansL st x).length ≤ 7000 by omega) (by decide))
          refine ⟨_, rfl, ⟨at_ + 1 + n, _, _, out ++ (((ansL st x).length : Int) :: ansL st x), (Kp243.step st x).1, own', f', cs', rfl, hn2, hcs', fun c hc => hall c (List.mem_cons_of_mem _ hc), ?_, ?_, step_good hgs x, ?_, ?_, nto3, ?_⟩, ?_⟩
          · rw [hout, played_cons st _ cs' hco, List.append_assoc]
          · rw [List.length_append, List.length_cons]
            omega
          · refine hst3.keep fun b o hb e => ?_
            have nb : b ≠ tl := fun z => by
              rcases hb with q1 | q1
              · exact ntc (z.symm.trans q1)
              · exact nto3 (by rw [← z]; exact q1)
            rw [upd_ne nb, upd_ne nb]
            exact e
          · rw [upd_same, List.length_map, List.map_append, List.append_assoc]
            rfl
          · intro o e
            obtain ⟨k1, k2, k3, k4⟩ := hka o e
            obtain ⟨k5, k6⟩ := hkp a o (sg _ _ k1) k2 k3
            refine ⟨?_, k2, k6, k4⟩
            rw [upd_ne k4, upd_ne k4]
            exact k5
          · show ns.length - (((at_ + 1 + n : Nat) : Int)).toNat < ns.length - ((at_ : Nat) : Int).toNat
            omega
      · have hge : ns.length ≤ at_ := by
          by_cases q : at_ < ns.length
          · exact absurd (decide_eq_true q) hlt
          · omega
        rw [List.drop_eq_nil_of_le hge] at hcs
        have := calls_nil hcs
        subst this
        refine ⟨_, rfl, k H2 tl ?_⟩
        rw [hout]
        show H2 tl = some (.lst ((out ++ []).map V.int))
        rw [List.append_nil]
        exact htl2
    · rintro σ H2 Q1 Q2 hq ⟨v, e1, v2, e2, p, ys, e3, hs, i, j, e4, e5, b, e6, q⟩
      exact ⟨v, e1, v2, e2, p, ys, e3, hs, i, j, e4, e5, b, e6, hq _ _ q⟩
end
end Ff


set_option Elab.async false
set_option linter.all false
set_option maxRecDepth 100000
set_option maxHeartbeats 2000000
/-! begin, section, cost. -/
namespace Ff
open PySem PySem.Spec PyProof.Rows L2
abbrev sOver : Stmt := top 20
abbrev sBegin : Stmt := top 21
abbrev sSection : Stmt := top 22
abbrev sCost : Stmt := top 23
theorem put_begun (b b' : Bool) (l : Addr) (lo hi op sp : Nat) : putF "begun" (.bl b') (cabF b l lo hi op sp) = cabF b' l lo hi op sp := by rfl
theorem put_sections (b : Bool) (l l' : Addr) (lo hi op sp : Nat) : putF "sections" (.ref l') (cabF b l lo hi op sp) = cabF b l' lo hi op sp := by rfl
theorem put_opens (s : Kp243.Section) (o : Nat) : putF "opens" (.int o) (secF s) = secF { s with opens := o } := by rfl
section
variable {P : Program} {w : World} {K : PySem.W.Frag} {mg : Str → Option Value} {base : Heap} {S C : Addr}
/-! ### cost -/
def mkK : List Nat → Kp243.Call | [i, o] => .cost i o | _ => .sums
theorem cost_no (c : Kp243.Cable) (i o : Nat) (h : ¬ i < Kp243.size c) : outC c (.cost i o) = c ∧ outA c (.cost i o) = [-2] := by
  have e : Kp243.isSection c i = false := by unfold Kp243.isSection; exact decide_eq_false h
  unfold outC outA Kp243.step
  simp only [if_pos e]
  exact ⟨rfl, rfl⟩
theorem cost_out (c : Kp243.Cable) (i o : Nat) (h : i < Kp243.size c) (h2 : o = 0 ∨ 1000 < o) : outC c (.cost i o) = c ∧ outA c (.cost i o) = [-22] := by
  have e : ¬ Kp243.isSection c i = false := by unfold Kp243.isSection; rw [decide_eq_true h]; simp
  unfold outC outA Kp243.step
  simp only [if_neg e, if_pos h2]
  exact ⟨rfl, rfl⟩
theorem cost_set (c : Kp243.Cable) (i o : Nat) (h : i < Kp243.size c) (h2 : ¬ (o = 0 ∨ 1000 < o)) : outC c (.cost i o) = { c with sections := c.sections.set i { Kp243.at_ c i with opens := o } } ∧ outA c (.cost i o) = [((Kp243.at_ c i).opens : Int)] := by
  have e : ¬ Kp243.isSection c i = false := by unfold Kp243.isSection; rw [decide_eq_true h]; simp
  unfold outC outA Kp243.step
  simp only [if_neg e, if_neg h2]
  exact ⟨rfl, rfl⟩
theorem isCost_nat (o : Nat) : isCost (o : Int) = true ↔ ¬ (o = 0 ∨ 1000 < o) := by
  unfold isCost
  simp only [Bool.and_eq_true, decide_eq_true_eq]
  omega
theorem sec_ne {H : Hp} {cab l : Addr} {as : List Addr} {c : Kp243.Cable} (h : CabAt S C H cab l as c) {i : Nat} {a : Addr} (ha : as[i]? = some a) : a ≠ cab ∧ a ≠ l := by
  obtain ⟨dx, h0⟩ := h.ins
  obtain ⟨s, _, dz, q2⟩ := h.secs.at_ i a ha
  refine ⟨fun e => ?_, ne_of q2 h.secs.lst (by intro z; cases z)⟩
  rw [e, h0] at q2
  have z := Option.some.inj q2
  injection z with _ _ z3
  unfold cabF secF at z3
  injection z3 with z4 _
  injection z4 with z5 _
  exact absurd z5 (by decide)
theorem scCost : FnScope ["cable", "i", "opens", "was"] ["cable", "i", "opens"] (defScope sCost) := ⟨rfl, rfl, rfl, by decide +kernel, rfl, by decide +kernel, by decide +kernel⟩
theorem ok_cost {f : Addr} {fd : FuncData} (T : Txt K mg S C) (dI : Def P w K mg base 1 "is_cost" ["opens"] spIsCost) (F : Fun K "cost" "cost" sCost f fd) : FnOk P w K mg base CX0 2 f fd ["cable", "i", "opens"] (spDo S C 2 mkK) := by
  refine F.ok scCost (fun vs H Q E h => ?_) (fun cdv A outer s H vs Q E hr h => ?_)
  · obtain ⟨cab, l, as, c, args, hl, rfl, _⟩ := h
    show (nV args).length + 1 = 3
    rw [nV_len, hl]
  · obtain ⟨cab, l, as, c, args, hl, rfl, hc, hg, k⟩ := h
    obtain ⟨i, o, rfl⟩ := len2 hl
    obtain ⟨dx, hx⟩ := hc.ins
    refine ⟨_, pss_cons (ps_if (pt_cmpR op_ge (pv 1) (plen (K := K) T.bLen (pf (K := K) 0)) (nomark _)) (pss_one (ps_ret (pe_lst (pa_cons (pe_ci T.mNoSuch) pa_nil)))) pss_nil)
      (pss_cons (ps_if (pt_not (pt_val (pe_cl dI hr (pa_cons (pv 2) pa_nil)))) (pss_one (ps_ret (pe_lst (pa_cons (pe_ci T.mOut) pa_nil)))) pss_nil)
      (pss_cons (ps_set (i := 3) scCost.nd rfl (Or.inl rfl) (pfe (K := K) (pxl (K := K) (pf (K := K) 0) (pv 1))))
      (pss_cons (ps_fld (pxl (K := K) (pf (K := K) 0) (pv 1)) (pv 2) rfl)
      (pss_one (ps_ret (pe_lst (pa_cons (pv 3) pa_nil))))))), ?_⟩
    refine ⟨_, rfl, _, rfl, cab, C, dx, _, _, rfl, hx, T.clC, T.naS, rfl, l, _, rfl, .inl (SqL.of hc.secs.lst), _, _, rfl, rfl, _, rfl, ?_⟩
    rw [List.length_map, hc.secs.len]
    refine ite2 (fun h1 => ?_) fun h1 => ?_
    · have hno : ¬ i < Kp243.size c := by
        have z := of_decide_eq_true h1
        dsimp only at z
        unfold Kp243.size
        omega
      obtain ⟨o1, o2⟩ := cost_no c i o hno
      refine ⟨by show 1 ≤ sizeLine; decide, fun q hq => k _ q l as ?_ hq ?_⟩
      · rw [show outC c (mkK [i, o]) = c from o1]
        exact After.same hc (same_upd hq)
      · rw [show outA c (mkK [i, o]) = _ from o2, upd_same]
        rfl
    · have hi : i < Kp243.size c := by
        by_cases z : ((c.sections.length : Nat) : Int) ≤ (i : Int)
        · exact absurd (decide_eq_true z) h1
        · unfold Kp243.size
          omega
      refine ⟨_, rfl, (o : Int), rfl, _, rfl, ?_⟩
      refine ite2 (fun h2 => ?_) fun h2 => ?_
      · have ho : o = 0 ∨ 1000 < o := by
          by_cases z : o = 0 ∨ 1000 < o
          · exact z
          · rw [(isCost_nat o).mpr z] at h2
            cases h2
        obtain ⟨o1, o2⟩ := cost_out c i o hi ho
        refine ⟨by show 1 ≤ sizeLine; decide, fun q hq => k _ q l as ?_ hq ?_⟩
        · rw [show outC c (mkK [i, o]) = c from o1]
          exact After.same hc (same_upd hq)
        · rw [show outA c (mkK [i, o]) = _ from o2, upd_same]
          rfl
      · have ho : ¬ (o = 0 ∨ 1000 < o) := by
          refine (isCost_nat o).mp ?_
          cases e : isCost (o : Int) with
          | true => rfl
          | false => rw [e] at h2; exact absurd rfl h2
        obtain ⟨o1, o2⟩ := cost_set c i o hi ho
        obtain ⟨a, ha, ⟨dz, hz⟩, hci⟩ := hc.sec hi
        obtain ⟨na1, na2⟩ := sec_ne hc ha
        have hat : atI (as.map V.ref) (i : Int) = some (V.ref a) := atI_nat (by rw [List.getElem?_map, ha]; rfl)
        refine ⟨_, rfl, cab, C, dx, _, _, rfl, hx, T.clC, T.naS, rfl, _, rfl, l, _, _, _, rfl, rfl, SqL.of hc.secs.lst, hat, a, S, dz, _, _, rfl, hz, T.clS, T.naO, rfl, ?_⟩
        refine ⟨_, rfl, _, rfl, cab, C, dx, _, _, rfl, hx, T.clC, T.naS, rfl, _, rfl, l, _, _, _, rfl, rfl, SqL.of hc.secs.lst, hat, a, S, dz, _, rfl, hz, T.clS, T.naO, by show 3 < 1000; decide, ?_⟩
        refine ⟨_, rfl, by show 1 ≤ sizeLine; decide, fun q hq => ?_⟩
        dsimp only at hq ⊢
        have nqa : ∀ b o, H b = some o → b ≠ q := fun b o e z => by
          by_cases hb : b = a
          · rw [← z, hb, upd_same] at hq; cases hq
          · rw [← z, upd_ne hb, e] at hq; cases hq
        have hqH : H q = none := by
          cases e : H q with
          | none => rfl
          | some o => exact absurd rfl (nqa q o e)
        refine k _ q l as ?_ hqH ?_
        · rw [show outC c (mkK [i, o]) = _ from o1]
          have kp : ∀ b u, H b = some u → b ≠ a → upd (upd H a (.ins S dz (putF "opens" (.int (o : Nat)) (secF (Kp243.at_ c i))))) q (.lst [.int ((Kp243.at_ c i).opens : Nat)]) b = some u := fun b u e hb => by
            rw [upd_ne (nqa b u e), upd_ne hb]
            exact e
          refine ⟨⟨⟨dx, kp _ _ hx na1.symm⟩, ⟨kp _ _ hc.secs.lst na2.symm, by show as.length = (c.sections.set i _).length; rw [List.length_set]; exact hc.secs.len, fun j b hb => ?_⟩, hc.nd⟩, fun b u e n1 n2 n3 => ⟨kp b u e fun z => n3 (by rw [z]; exact List.mem_of_getElem? ha), n2, n3⟩⟩
          by_cases hj : j = i
          · subst hj
            have eb : b = a := Option.some.inj (hb.symm.trans ha)
            subst eb
            refine ⟨{ Kp243.at_ c j with opens := o }, ?_, dz, ?_⟩
            · show (c.sections.set j _)[j]? = _
              rw [List.getElem?_set_self hi]
            · rw [upd_ne (nqa b _ hz), upd_same, put_opens]
          · obtain ⟨s', q1, dz', q2⟩ := hc.secs.at_ j b hb
            refine ⟨s', ?_, dz', kp b _ q2 fun z => hj (nd_ix hc.nd hb (by rw [z]; exact ha))⟩
            show (c.sections.set i _)[j]? = _
            rw [List.getElem?_set_ne (fun z => hj z.symm)]
            exact q1
        · rw [show outA c (mkK [i, o]) = _ from o2, upd_same]
          rfl
/-! ### start_over, begin -/
def spOver (C : Addr) : Sp := fun vs H Q _ => ∃ cab dx b l lo hi op sp ns, vs = [.ref cab] ∧ H cab = some (.ins C dx (cabF b l lo hi op sp)) ∧ H l = some (.lst ns) ∧
  ∀ H', H' cab = some (.ins C dx (cabF b l 0 ns.length 0 0)) → (∀ b o, H b = some o → b ≠ cab → H' b = some o) → Q .non H'
theorem scOver : FnScope ["cable"] ["cable"] (defScope sOver) := ⟨rfl, rfl, rfl, by decide +kernel, rfl, by decide +kernel, by decide +kernel⟩
theorem ok_over {f : Addr} {fd : FuncData} (T : Txt K mg S C) (F : Fun K "start_over" "start_over" sOver f fd) : FnOk P w K mg base CX0 1 f fd ["cable"] (spOver C) := by
  refine F.ok scOver (fun vs H Q E h => ?_) (fun cdv A outer s H vs Q E hr h => ?_)
  · obtain ⟨cab, dx, b, l, lo, hi, op, sp, ns, rfl, _⟩ := h
    rfl
  · obtain ⟨cab, dx, b, l, lo, hi, op, sp, ns, rfl, hx, hl, k⟩ := h
    have ncl : l ≠ cab := ne_of hl hx (by intro z; cases z)
    refine ⟨_, pss_cons (ps_fld (pv 0) pe_int rfl) (pss_cons (ps_fld (pv 0) (plen (K := K) T.bLen (pf (K := K) 0)) rfl) (pss_cons (ps_fld (pv 0) pe_int rfl) (pss_one (ps_fld (pv 0) pe_int rfl)))), ?_⟩
    refine ⟨_, rfl, cab, C, dx, _, rfl, hx, T.clC, T.naL, by show 6 < 1000; decide, ?_⟩
    rw [show V.int 0 = V.int ((0 : Nat) : Int) from rfl, put_low]
    refine ⟨_, rfl, cab, C, dx, _, _, rfl, upd_same, T.clC, T.naS, rfl, l, ns, rfl, .inl (SqL.of (by rw [upd_ne ncl]; exact hl)), ?_⟩
    refine ⟨_, rfl, cab, C, dx, _, rfl, upd_same, T.clC, T.naH, by show 6 < 1000; decide, ?_⟩
    rw [put_high]
    refine ⟨_, rfl, cab, C, dx, _, rfl, upd_same, T.clC, T.naN, by show 6 < 1000; decide, ?_⟩
    rw [put_openings]
    refine ⟨_, rfl, cab, C, dx, _, rfl, upd_same, T.clC, T.naP, by show 6 < 1000; decide, ?_⟩
    rw [put_spent]
    refine k _ upd_same fun b o e hb => ?_
    rw [upd_ne hb, upd_ne hb, upd_ne hb, upd_ne hb]
    exact e
theorem d_over {f : Addr} (T : Txt K mg S C) (F : TF K mg "start_over" sOver f) : Def P w K mg base 1 "start_over" ["cable"] (spOver C) :=
  F.def (fun _ => ok_over T) fun _ _ _ _ _ _ us hl => match us, hl with | [_], _ => rfl
def spBegin (S C : Addr) : Sp := fun vs H Q _ => ∃ cab dx b l lo hi op sp, vs = [.ref cab] ∧ H cab = some (.ins C dx (cabF b l lo hi op sp)) ∧
  ∀ H' q l', CabAt S C H' cab l' [] ⟨[], 0, 0, 0, 0⟩ → H l' = none → (∀ b o, H b = some o → b ≠ cab → H' b = some o) → H q = none → H' q = some (.lst [.int 0]) → Q (.ref q) H'
theorem scBegin : FnScope ["cable"] ["cable"] (defScope sBegin) := ⟨rfl, rfl, rfl, by decide +kernel, rfl, by decide +kernel, by decide +kernel⟩
theorem free_of {H H1 : Hp} {cab q : Addr} {o1 : HO} (kp : ∀ b o, H b = some o → b ≠ cab → H1 b = some o) (hx : H1 cab = some o1) (hq : H1 q = none) : H q = none := by
  cases e : H q with
  | none => rfl
  | some o =>
    by_cases hb : q = cab
    · rw [hb, hx] at hq; cases hq
    · rw [kp q o e hb] at hq; cases hq
theorem ok_begin {f : Addr} {fd : FuncData} (T : Txt K mg S C) (dO : Def P w K mg base 1 "start_over" ["cable"] (spOver C)) (F : Fun K "begin" "begin" sBegin f fd) : FnOk P w K mg base CX0 2 f fd ["cable"] (spBegin S C) := by
  refine F.ok scBegin (fun vs H Q E h => ?_) (fun cdv A outer s H vs Q E hr h => ?_)
  · obtain ⟨cab, dx, b, l, lo, hi, op, sp, rfl, _⟩ := h
    rfl
  · obtain ⟨cab, dx, b, l, lo, hi, op, sp, rfl, hx, k⟩ := h
    refine ⟨_, pss_cons (ps_fld (pv 0) pe_bl rfl) (pss_cons (ps_fld (pv 0) (pe_lst pa_nil) rfl) (pss_cons (ps_expr (pe_cl dO hr (pa_cons (pv 0) pa_nil))) (pss_one (ps_ret (pe_lst (pa_cons pe_int pa_nil)))))), ?_⟩
    refine ⟨_, rfl, cab, C, dx, _, rfl, hx, T.clC, T.naB, by show 6 < 1000; decide, Nat.zero_le _, fun l' hl' => ?_⟩
    have ncl : cab ≠ l' := ne_of_none upd_same hl'
    have hlH : H l' = none := by rw [upd_ne ncl.symm] at hl'; exact hl'
    rw [put_begun] at *
    refine ⟨_, rfl, cab, C, dx, _, rfl, by rw [upd_ne ncl]; exact upd_same, T.clC, T.naS, by show 6 < 1000; decide, ?_⟩
    rw [put_sections]
    refine ⟨_, rfl, cab, dx, true, l', lo, hi, op, sp, [], rfl, upd_same, by rw [upd_ne ncl.symm]; exact upd_same, fun H1 hx1 kp1 => ?_⟩
    have kp : ∀ b o, H b = some o → b ≠ cab → H1 b = some o := fun b o e hb => by
      refine kp1 b o ?_ hb
      rw [upd_ne hb, upd_ne (ne_of_none e hlH), upd_ne hb]
      exact e
    have hl1 : H1 l' = some (.lst []) := kp1 l' _ (by rw [upd_ne ncl.symm]; exact upd_same) ncl.symm
    refine ⟨by show 1 ≤ sizeLine; decide, fun q hq => ?_⟩
    have sq := same_upd (o := .lst [.int 0]) hq
    refine k _ q l' ⟨⟨dx, sq _ _ hx1⟩, ⟨sq _ _ hl1, rfl, fun j a h => by simp at h⟩, List.nodup_nil⟩ hlH (fun b o e hb => sq _ _ (kp b o e hb)) (free_of kp hx1 hq) ?_
    rw [upd_same]
/-! ### section -/
def spSecInit (S : Addr) : Sp := fun vs H Q _ => ∃ p dx, ∃ m e o : Nat, vs = [.ref p, .int m, .int e, .int o] ∧ H p = some (.ins S dx []) ∧ ∀ H', H' p = some (.ins S dx (secF ⟨m, e, o⟩)) → (∀ b u, H b = some u → b ≠ p → H' b = some u) → Q .non H'
theorem scSecInit : FnScope ["self", "metres", "each", "opens"] ["self", "metres", "each", "opens"] (defScope sSecInit) := ⟨rfl, rfl, rfl, by decide +kernel, rfl, by decide +kernel, by decide +kernel⟩
theorem ok_sec_init {f : Addr} {fd : FuncData} (T : Txt K mg S C) (F : Fun K "__init__" "Section.__init__" sSecInit f fd) : FnOk P w K mg base CX0 1 f fd ["self", "metres", "each", "opens"] (spSecInit S) := by
  refine F.ok scSecInit (fun vs H Q E h => ?_) (fun cdv A outer s H vs Q E hr h => ?_)
  · obtain ⟨p, dx, m, e, o, rfl, _⟩ := h
    rfl
  · obtain ⟨p, dx, m, e, o, rfl, hp, k⟩ := h
    refine ⟨_, pss_cons (ps_fld (pv 0) (pv 1) rfl) (pss_cons (ps_fld (pv 0) (pv 2) rfl) (pss_one (ps_fld (pv 0) (pv 3) rfl))), ?_⟩
    refine ⟨_, rfl, _, rfl, p, S, dx, _, rfl, hp, T.clS, T.naM, by show 0 < 1000; decide, ?_⟩
    refine ⟨_, rfl, _, rfl, p, S, dx, _, rfl, upd_same, T.clS, T.naE, by show 1 < 1000; decide, ?_⟩
    refine ⟨_, rfl, _, rfl, p, S, dx, _, rfl, upd_same, T.clS, T.naO, by show 2 < 1000; decide, ?_⟩
    refine k _ ?_ fun b u e' hb => ?_
    · rw [upd_same]; rfl
    · rw [upd_ne hb, upd_ne hb, upd_ne hb]; exact e'
def mkS : List Nat → Kp243.Call | [m, e, o] => .section_ m e o | _ => .sums
theorem section_22 (c : Kp243.Cable) (m e o : Nat) (h : m = 0 ∨ 1000 < m ∨ 100 < e ∨ o = 0 ∨ 1000 < o) : outC c (.section_ m e o) = c ∧ outA c (.section_ m e o) = [-22] := by
  unfold outC outA Kp243.step
  simp only [if_pos h]
  exact ⟨rfl, rfl⟩
theorem section_16 (c : Kp243.Cable) (m e o : Nat) (h : ¬ (m = 0 ∨ 1000 < m ∨ 100 < e ∨ o = 0 ∨ 1000 < o)) (h2 : c.from_ ≠ 0 ∨ c.to ≠ Kp243.size c ∨ c.opened ≠ 0) : outC c (.section_ m e o) = c ∧ outA c (.section_ m e o) = [-16] := by
  unfold outC outA Kp243.step
  simp only [if_neg h, if_pos h2]
  exact ⟨rfl, rfl⟩
theorem section_28 (c : Kp243.Cable) (m e o : Nat) (h : ¬ (m = 0 ∨ 1000 < m ∨ 100 < e ∨ o = 0 ∨ 1000 < o)) (h2 : ¬ (c.from_ ≠ 0 ∨ c.to ≠ Kp243.size c ∨ c.opened ≠ 0)) (h3 : Kp243.SECTIONS ≤ Kp243.size c) : outC c (.section_ m e o) = c ∧ outA c (.section_ m e o) = [-28] := by
  unfold outC outA Kp243.step
  simp only [if_neg h, if_neg h2, if_pos h3]
  exact ⟨rfl, rfl⟩
theorem section_ok (c : Kp243.Cable) (m e o : Nat) (h : ¬ (m = 0 ∨ 1000 < m ∨ 100 < e ∨ o = 0 ∨ 1000 < o)) (h2 : ¬ (c.from_ ≠ 0 ∨ c.to ≠ Kp243.size c ∨ c.opened ≠ 0)) (h3 : ¬ Kp243.SECTIONS ≤ Kp243.size c) :
    outC c (.section_ m e o) = { c with sections := c.sections ++ [⟨m, e, o⟩], to := c.to + 1 } ∧ outA c (.section_ m e o) = [(Kp243.size c : Int)] := by
  unfold outC outA Kp243.step
  simp only [if_neg h, if_neg h2, if_neg h3]
  exact ⟨rfl, rfl⟩
theorem scSection : FnScope ["cable", "metres", "each", "opens", "number"] ["cable", "metres", "each", "opens"] (defScope sSection) := ⟨rfl, rfl, rfl, by decide +kernel, rfl, by decide +kernel, by decide +kernel⟩
theorem ok_section {f fI : Addr} {fd fdI : FuncData} (T : Txt K mg S C) (dI : Def P w K mg base 1 "is_cost" ["opens"] spIsCost) (M : Mk K S fI) (GI : FnOk P w K mg base CX0 1 fI fdI ["self", "metres", "each", "opens"] (spSecInit S)) (bI : Binds K fdI ["self", "metres", "each", "opens"] [])
    (F : Fun K "section" "section" sSection f fd) : FnOk P w K mg base CX0 3 f fd ["cable", "metres", "each", "opens"] (spDo S C 3 mkS) := by
  refine F.ok scSection (fun vs H Q E h => ?_) (fun cdv A outer s H vs Q E hr h => ?_)
  · obtain ⟨cab, l, as, c, args, hl, rfl, _⟩ := h
    show (nV args).length + 1 = 4
    rw [nV_len, hl]
  · obtain ⟨cab, l, as, c, args, hl, rfl, hc, hg, k⟩ := h
    obtain ⟨m, e, o, rfl⟩ := len3 hl
    obtain ⟨dx, hx⟩ := hc.ins
    have hr1 : Room 1 _ := hr.mono (by decide)
    refine ⟨_, pss_cons (ps_set (i := 4) scSection.nd rfl (Or.inl rfl) (plen (K := K) T.bLen (pf (K := K) 0)))
      (pss_cons (ps_if (PW.pt (pw_or (pt_cmpR op_lt (pv 1) pe_int (nomark _)) (pw_or (pt_cmpR op_gt (pv 1) (pe_ci T.mMetres) (nomark _)) (pw_or (pt_cmpR op_gt (pv 2) (pe_ci T.mEach) (nomark _)) (pw_or1 (pt_not (pt_val (pe_cl dI hr1 (pa_cons (pv 3) pa_nil)))))))))
        (pss_one (ps_ret (pe_lst (pa_cons (pe_ci T.mOut) pa_nil)))) pss_nil)
      (pss_cons (ps_if (pt_cmpR op_lt (pe_op op_sub (pf (K := K) 0) (pf (K := K) 0)) (pv 4) (nomark _)) (pss_one (ps_ret (pe_lst (pa_cons (pe_ci T.mNotInAll) pa_nil)))) pss_nil)
      (pss_cons (ps_if (pt_cmpR op_eq (pv 4) (pe_ci T.mSections) (nomark _)) (pss_one (ps_ret (pe_lst (pa_cons (pe_ci T.mFull) pa_nil)))) pss_nil)
      (pss_cons (ps_expr (pe_bm PySem.F.plainAttrs_list PySem.F.slot_list_append PySem.F.type_list_append mt_append (pf (K := K) 0) (pa_cons (pe_make M GI hr rfl T.mgS bI .nil pass0 (pa_cons (pv 1) (pa_cons (pv 2) (pa_cons (pv 3) pa_nil)))) pa_nil)))
      (pss_cons (ps_fld (pv 0) (pe_op op_add (pv 4) pe_int) rfl)
      (pss_one (ps_ret (pe_lst (pa_cons (pv 4) pa_nil))))))))), ?_⟩
    refine ⟨_, rfl, cab, C, dx, _, _, rfl, hx, T.clC, T.naS, rfl, l, _, rfl, .inl (SqL.of hc.secs.lst), ?_⟩
    rw [List.length_map, hc.secs.len]
    have r22 : (m = 0 ∨ 1000 < m ∨ 100 < e ∨ o = 0 ∨ 1000 < o) → ∀ q, H q = none → Q (.ref q) (upd H q (.lst [.int (-22)])) := fun h q hq => by
      obtain ⟨o1, o2⟩ := section_22 c m e o h
      refine k _ q l as ?_ hq ?_
      · rw [show outC c (mkS [m, e, o]) = c from o1]
        exact After.same hc (same_upd hq)
      · rw [show outA c (mkS [m, e, o]) = _ from o2, upd_same]
        rfl
    refine ⟨_, rfl, _, _, rfl, rfl, _, rfl, ite2 (fun h1 => iteT ⟨by show 1 ≤ sizeLine; decide, r22 ?_⟩) fun h1 => ?_⟩
    · have z := of_decide_eq_true h1
      dsimp only at z
      omega
    refine ⟨_, rfl, _, _, rfl, rfl, _, rfl, ite2 (fun h2 => iteT ⟨by show 1 ≤ sizeLine; decide, r22 ?_⟩) fun h2 => ?_⟩
    · have z := of_decide_eq_true h2
      dsimp only at z
      omega
    refine ⟨_, rfl, _, _, rfl, rfl, _, rfl, ite2 (fun h3 => iteT ⟨by show 1 ≤ sizeLine; decide, r22 ?_⟩) fun h3 => ?_⟩
    · have z := of_decide_eq_true h3
      dsimp only at z
      omega
    refine ⟨_, rfl, (o : Int), rfl, _, rfl, ite2 (fun h4 => ⟨by show 1 ≤ sizeLine; decide, r22 ?_⟩) fun h4 => ?_⟩
    · by_cases z : o = 0 ∨ 1000 < o
      · omega
      · rw [(isCost_nat o).mpr z] at h4
        cases h4
    have ho : ¬ (o = 0 ∨ 1000 < o) := by
      refine (isCost_nat o).mp ?_
      cases e : isCost (o : Int) with
      | true => rfl
      | false => rw [e] at h4; exact absurd rfl h4
    have hok : ¬ (m = 0 ∨ 1000 < m ∨ 100 < e ∨ o = 0 ∨ 1000 < o) := by
      have z1 : ¬ ((m : Int) < 1) := fun z => h1 (decide_eq_true z)
      have z2 : ¬ ((1000 : Int) < (m : Int)) := fun z => h2 (decide_eq_true z)
      have z3 : ¬ ((100 : Int) < (e : Int)) := fun z => h3 (decide_eq_true z)
      omega
    have b1 := hg.ft
    have b2 := hg.tn
    have b3 := hg.n10
    have b4 := hg.op
    have esz : c.sections.length = Kp243.size c := rfl
    refine ⟨_, rfl, cab, C, dx, _, _, rfl, hx, T.clC, T.naH, rfl, _, rfl, cab, C, dx, _, _, rfl, hx, T.clC, T.naL, rfl, _, _, rfl, rfl, _, rfl, _, _, rfl, rfl, _, rfl, ite2 (fun h5 => ?_) fun h5 => ?_⟩
    · have z := of_decide_eq_true h5
      obtain ⟨o1, o2⟩ := section_16 c m e o hok (by omega)
      refine ⟨by show 1 ≤ sizeLine; decide, fun q hq => k _ q l as ?_ hq ?_⟩
      · rw [show outC c (mkS [m, e, o]) = c from o1]
        exact After.same hc (same_upd hq)
      · rw [show outA c (mkS [m, e, o]) = _ from o2, upd_same]
        rfl
    have h5' : ¬ ((c.to : Int) - (c.from_ : Int) < ((c.sections.length : Nat) : Int)) := fun z => h5 (decide_eq_true z)
    have hall : ¬ (c.from_ ≠ 0 ∨ c.to ≠ Kp243.size c ∨ c.opened ≠ 0) := by
      by_cases hop : c.opened = 0
      · omega
      · have := b4 hop
        omega
    refine ⟨_, rfl, rfl, _, rfl, ite2 (fun h6 => ?_) fun h6 => ?_⟩
    · have z := of_decide_eq_true h6
      injection z with z
      obtain ⟨o1, o2⟩ := section_28 c m e o hok hall (by show 10 ≤ Kp243.size c; omega)
      refine ⟨by show 1 ≤ sizeLine; decide, fun q hq => k _ q l as ?_ hq ?_⟩
      · rw [show outC c (mkS [m, e, o]) = c from o1]
        exact After.same hc (same_upd hq)
      · rw [show outA c (mkS [m, e, o]) = _ from o2, upd_same]
        rfl
    have h6' : ¬ (10 ≤ Kp243.size c) := fun z => h6 (decide_eq_true (by
      show V.int ((c.sections.length : Nat) : Int) = V.int 10
      rw [show c.sections.length = 10 by omega]
      rfl))
    obtain ⟨o1, o2⟩ := section_ok c m e o hok hall h6'
    refine ⟨_, rfl, cab, C, dx, _, _, rfl, hx, T.clC, T.naS, rfl, .inl ⟨rfl, _, SqL.of hc.secs.lst⟩, _, rfl, _, rfl, _, rfl, fun x dz nx nd ndx => ?_⟩
    refine ⟨x, dz, m, e, o, rfl, upd_same, fun H1 hx1 kp1 => ⟨rfl, ?_⟩⟩
    have s1 : Same H H1 := Same.made nx nd kp1
    have hl1 := s1 _ _ hc.secs.lst
    refine ⟨l, _, _, rfl, rfl, hl1, by rw [List.length_map, hc.secs.len]; exact small1000 (by omega), ?_⟩
    have nlc : cab ≠ l := ne_of hx hc.secs.lst (by intro z; cases z)
    have hx2 : upd H1 l (.lst (as.map V.ref ++ [V.ref x])) cab = some (.ins C dx (cabF true l c.from_ c.to c.opened c.spent)) := by rw [upd_ne nlc]; exact s1 _ _ hx
    refine ⟨_, rfl, _, _, rfl, rfl, _, rfl, cab, C, dx, _, rfl, hx2, T.clC, T.naH, by show 6 < 1000; decide, ?_⟩
    dsimp only
    rw [show ((c.sections.length : Nat) : Int) + 1 = ((c.to + 1 : Nat) : Int) by omega, put_high]
    generalize hH2 : upd (upd H1 l (.lst (as.map V.ref ++ [V.ref x]))) cab (.ins C dx (cabF true l c.from_ (c.to + 1) c.opened c.spent)) = H2
    have kp2 : ∀ b u, H1 b = some u → b ≠ l → b ≠ cab → H2 b = some u := fun b u q n1 n2 => by
      rw [← hH2, upd_ne n2, upd_ne n1]
      exact q
    have hcab2 : H2 cab = some (.ins C dx (cabF true l c.from_ (c.to + 1) c.opened c.spent)) := by rw [← hH2]; exact upd_same
    have hl2 : H2 l = some (.lst ((as ++ [x]).map V.ref)) := by rw [← hH2, upd_ne nlc.symm, upd_same, List.map_append]; rfl
    refine ⟨_, rfl, by show 1 ≤ sizeLine; decide, fun q hq => ?_⟩
    have sq := same_upd (o := .lst [.int ((c.sections.length : Nat) : Int)]) hq
    have hq1 : H1 q = none := by
      cases e1 : H1 q with
      | none => rfl
      | some u =>
        by_cases n1 : q = l
        · rw [n1, hl2] at hq; cases hq
        · by_cases n2 : q = cab
          · rw [n2, hcab2] at hq; cases hq
          · rw [kp2 q u e1 n1 n2] at hq; cases hq
    refine k _ q l (as ++ [x]) ?_ (s1.free hq1) ?_
    · rw [show outC c (mkS [m, e, o]) = _ from o1]
      have xl : x ≠ l := fun z => by rw [z, hc.secs.lst] at nx; cases nx
      have xc : x ≠ cab := fun z => by rw [z, hx] at nx; cases nx
      refine ⟨⟨⟨dx, sq _ _ hcab2⟩, ⟨sq _ _ hl2, by rw [List.length_append]; show _ = (c.sections ++ [_]).length; rw [List.length_append, hc.secs.len]; rfl, fun j b hb => ?_⟩, ?_⟩, fun b u q1 n1 n2 n3 => ⟨sq _ _ (kp2 b u (s1 b u q1) n2 n1), n2, fun hm => ?_⟩⟩
      · by_cases hj : j < as.length
        · rw [List.getElem?_append_left hj] at hb
          obtain ⟨s', q1, dz', q2⟩ := hc.secs.at_ j b hb
          obtain ⟨nb1, nb2⟩ := sec_ne hc hb
          refine ⟨s', ?_, dz', sq _ _ (kp2 b _ (s1 _ _ q2) nb2 nb1)⟩
          show (c.sections ++ [_])[j]? = _
          rw [List.getElem?_append_left (by rw [← hc.secs.len]; exact hj)]
          exact q1
        · rw [List.getElem?_append_right (by omega)] at hb
          have hj2 : j - as.length = 0 := by
            cases e1 : j - as.length with
            | zero => rfl
            | succ n => rw [e1] at hb; simp at hb
          rw [hj2] at hb
          have eb : x = b := Option.some.inj hb
          subst eb
          refine ⟨⟨m, e, o⟩, ?_, dz, sq _ _ (kp2 x _ hx1 xl xc)⟩
          show (c.sections ++ [_])[j]? = _
          rw [List.getElem?_append_right (by rw [← hc.secs.len]; omega), ← hc.secs.len, hj2]
          rfl
      · refine nd_snoc hc.nd fun hm => ?_
        obtain ⟨j, hj, e1⟩ := List.getElem_of_mem hm
        obtain ⟨s', _, dz', q2⟩ := hc.secs.at_ j x (by rw [List.getElem?_eq_getElem hj, e1])
        rw [nx] at q2
        cases q2
      · rcases List.mem_append.mp hm with z | z
        · exact n3 z
        · rw [List.mem_singleton.mp z, nx] at q1
          cases q1
    · rw [show outA c (mkS [m, e, o]) = _ from o2, upd_same]
      rfl
end
end Ff


set_option Elab.async false
set_option linter.all false
set_option maxRecDepth 100000
set_option maxHeartbeats 2000000
/-! One call: by its number. -/
namespace Ff
open PySem PySem.Spec PyProof.Rows L2
abbrev sAnswer : Stmt := top 57
section
variable {P : Program} {w : World} {K : PySem.W.Frag} {mg : Str → Option Value} {base : Heap} {S C : Addr}
/-- what a def of one call promises, by the call's number -/
def spOne (S C : Addr) (j : Nat) : Sp := fun vs H Q _ => ∃ cab own st args x, vs = .ref cab :: nV args ∧ callN j args = some x ∧ StAt S C H cab own st ∧ (st = none → j = 0) ∧
  ∀ H' q own', StAt S C H' cab own' (Kp243.step st x).1 → Kept H H' cab own own' → H q = none → H' q = some (.lst ((ansL st x).map V.int)) → Q (.ref q) H'
theorem step_some (c : Kp243.Cable) (x : Kp243.Call) : (Kp243.step (some c) x).1 = some (outC c x) := by
  have h : ∃ d, (Kp243.step (some c) x).1 = some d := by
    unfold Kp243.step
    cases x <;> dsimp only <;> (repeat' split) <;> exact ⟨_, rfl⟩
  obtain ⟨d, e⟩ := h
  unfold outC
  rw [e]
  rfl
/-- from a def of one call of a cable that is there -/
theorem one_of {n j : Nat} {mk : List Nat → Kp243.Call} {k : Nat} {f : Addr} {fd : FuncData} {ps : List Str} (F : FnOk P w K mg base CX0 k f fd ps (spDo S C n mk)) (hj : j ≠ 0) (hmk : ∀ args x, callN j args = some x → args.length = n ∧ mk args = x) : FnOk P w K mg base CX0 k f fd ps (spOne S C j) := by
  refine F.imp fun vs H Q E h => ?_
  obtain ⟨cab, own, st, args, x, rfl, hx, hst, h0, k⟩ := h
  obtain ⟨h1, h2⟩ := hmk args x hx
  cases st with
  | none => exact absurd (h0 rfl) hj
  | some c =>
    obtain ⟨l, as, rfl, hc, hg⟩ := hst
    refine ⟨cab, l, as, c, args, h1, rfl, hc, hg, fun H' q l' as' ha hq hl => ?_⟩
    rw [h2] at ha hl
    have gd : GoodS (Kp243.step (some c) x).1 := step_good (s := some c) hg x
    refine k H' q (l' :: as') ?_ (fun b o e n1 n2 => ?_) hq hl
    · rw [step_some] at gd ⊢
      exact ⟨l', as', rfl, ha.at_, gd⟩
    · obtain ⟨e1, e2, e3⟩ := ha.keep b o e n1 (fun z => n2 (by rw [z]; exact List.mem_cons_self ..)) fun z => n2 (List.mem_cons_of_mem _ z)
      refine ⟨e1, fun hm => ?_⟩
      rcases List.mem_cons.mp hm with z | z
      · exact e2 z
      · exact e3 z
theorem one_begin {k : Nat} {f : Addr} {fd : FuncData} {ps : List Str} (F : FnOk P w K mg base CX0 k f fd ps (spBegin S C)) : FnOk P w K mg base CX0 k f fd ps (spOne S C 0) := by
  refine F.imp fun vs H Q E h => ?_
  obtain ⟨cab, own, st, args, x, rfl, hx, hst, h0, k⟩ := h
  have ha : args = [] ∧ x = .begin_ := by
    match args, hx with
    | [], hx => exact ⟨rfl, (Option.some.inj hx).symm⟩
    | [_], hx => cases hx
    | [_, _], hx => cases hx
    | [_, _, _], hx => cases hx
    | _ :: _ :: _ :: _ :: _, hx => cases hx
  obtain ⟨rfl, rfl⟩ := ha
  have ex : ∃ dx b l lo hi op sp, H cab = some (.ins C dx (cabF b l lo hi op sp)) := by
    cases st with
    | none =>
      obtain ⟨_, dx, l, lo, hi, op, sp, h⟩ := hst
      exact ⟨dx, _, l, lo, hi, op, sp, h⟩
    | some c =>
      obtain ⟨l, as, _, hc, _⟩ := hst
      obtain ⟨dx, h⟩ := hc.ins
      exact ⟨dx, _, l, _, _, _, _, h⟩
  obtain ⟨dx, b, l, lo, hi, op, sp, hx⟩ := ex
  have e1 : (Kp243.step st .begin_).1 = some ⟨[], 0, 0, 0, 0⟩ := by cases st <;> rfl
  have e2 : ansL st .begin_ = [0] := by cases st <;> rfl
  refine ⟨cab, dx, b, l, lo, hi, op, sp, rfl, hx, fun H' q l' hc hl' kp hq hq' => k H' q [l'] ?_ (fun b o e n1 n2 => ⟨kp b o e n1, fun z => ?_⟩) hq ?_⟩
  · rw [e1]
    exact ⟨l', [], rfl, hc, good_new⟩
  · rw [List.mem_singleton.mp z, hl'] at e
    cases e
  · rw [e2]
    exact hq'
/-- a table of the module: for each call of n whole numbers its def -/
structure Tab (P : Program) (w : World) (K : PySem.W.Frag) (mg : Str → Option Value) (base : Heap) (S C : Addr) (n : Nat) (x : Str) : Prop where
  ex : ∃ d tb, mg x = some (.ref d) ∧ MdD K d tb ∧ ∀ (j : Nat) (args : List Nat) (y : Kp243.Call), callN j args = some y → args.length = n → ∃ f, tb.lookup (j : Int) = some f ∧ ∃ fd ps, FnOk P w K mg base CX0 6 f fd ps (spOne S C j) ∧ PySem.W.keepIn K (.ref f) = true ∧ Binds K fd ps []
theorem scAnswer : FnScope ["cable", "number", "given"] ["cable", "number", "given"] (defScope sAnswer) := ⟨rfl, rfl, rfl, by decide +kernel, rfl, by decide +kernel, by decide +kernel⟩
theorem callN_len {j : Nat} {args : List Nat} {x : Kp243.Call} (h : callN j args = some x) : args.length ≤ 3 := by
  match args, h with
  | [], _ => show 0 ≤ 3; omega
  | [_], _ => show 1 ≤ 3; omega
  | [_, _], _ => show 2 ≤ 3; omega
  | [_, _, _], _ => show 3 ≤ 3; omega
  | _ :: _ :: _ :: _ :: _, h => cases h
theorem step_none {x : Kp243.Call} (h : x ≠ .begin_) : Kp243.step none x = (none, Kp243.say (-11)) := by
  cases x <;> first | exact absurd rfl h | rfl
theorem begin_of {j : Nat} {args : List Nat} {x : Kp243.Call} (h : callN j args = some x) : j = 0 ↔ x = .begin_ := by
  constructor
  · rintro rfl
    match args, h with
    | [], h => exact (Option.some.inj h).symm
    | [_], h => cases h
    | [_, _], h => cases h
    | [_, _, _], h => cases h
    | _ :: _ :: _ :: _ :: _, h => cases h
  · rintro rfl
    match args, h with
    | [], h =>
      have h : call0 j = some .begin_ := h
      unfold call0 at h
      repeat' split at h
      all_goals first | assumption | cases h
    | [a], h =>
      have h : call1 j a = some .begin_ := h
      unfold call1 at h
      repeat' split at h
      all_goals cases h
    | [a, b], h =>
      have h : call2 j a b = some .begin_ := h
      unfold call2 at h
      repeat' split at h
      all_goals cases h
    | [a, b, c], h =>
      have h : call3 j a b c = some .begin_ := h
      unfold call3 at h
      repeat' split at h
      all_goals cases h
    | _ :: _ :: _ :: _ :: _, h => cases h
theorem ok_answer {f : Addr} {fd : FuncData} (T : Txt K mg S C) (T0 : Tab P w K mg base S C 0 "WITH_NONE") (T1 : Tab P w K mg base S C 1 "WITH_ONE") (T2 : Tab P w K mg base S C 2 "WITH_TWO") (T3 : Tab P w K mg base S C 3 "WITH_THREE")
    (F : Fun K "answer" "answer" sAnswer f fd) : FnOk P w K mg base CX0 7 f fd ["cable", "number", "given"] (spAnswer S C) := by
  refine F.ok scAnswer (fun vs H Q E h => ?_) (fun cdv A outer s H vs Q E hr h => ?_)
  · obtain ⟨cab, g, own, st, j, args, x, rfl, _⟩ := h
    rfl
  · obtain ⟨cab, g, own, st, j, args, x, rfl, hg, hx, hst, ng, k⟩ := h
    obtain ⟨d0, tb0, m0, md0, t0⟩ := T0.ex
    obtain ⟨d1, tb1, m1, md1, t1⟩ := T1.ex
    obtain ⟨d2, tb2, m2, md2, t2⟩ := T2.ex
    obtain ⟨d3, tb3, m3, md3, t3⟩ := T3.ex
    have hF : ∀ (tb : List (Int × Addr)) (f : Addr) (j : Nat), (tb.lookup (j : Int) = some f ∧ ∃ fd ps, FnOk P w K mg base CX0 6 f fd ps (spOne S C j) ∧ PySem.W.keepIn K (.ref f) = true ∧ Binds K fd ps []) → ∃ fd ps, FnOk P w K mg base CX0 6 f fd ps (spOne S C j) ∧ PySem.W.keepIn K (.ref f) = true ∧ Binds K fd ps [] := fun _ _ _ h => h.2
    refine ⟨_, pss_cons (ps_if (PW.pt (pw_and (pt_cmpR op_ne (pv 1) (pe_ci T.mBegin) (nomark _)) (pw_and1 (pt_not (pt_val (pf (K := K) 0)))))) (pss_one (ps_ret (pe_lst (pa_cons (pe_ci T.mNotBegun) pa_nil)))) pss_nil)
      (pss_cons (ps_if (pt_cmpR op_eq (plen (K := K) T.bLen (pv 2)) pe_int (nomark _)) (pss_one (ps_ret (pe_callE (hF tb0) hr pass0 (pe_md (tb := tb0) (pe_glob (v := .ref d0) (by rfl) m0 rfl) (pv 1) (fun _ _ => rfl)) (pa_cons (pv 0) pa_nil)))) pss_nil)
      (pss_cons (ps_if (pt_cmpR op_eq (plen (K := K) T.bLen (pv 2)) pe_int (nomark _)) (pss_one (ps_ret (pe_callE (hF tb1) hr pass0 (pe_md (tb := tb1) (pe_glob (v := .ref d1) (by rfl) m1 rfl) (pv 1) (fun _ _ => rfl)) (pa_cons (pv 0) (pa_cons (pxl (K := K) (pv 2) pe_int) pa_nil))))) pss_nil)
      (pss_cons (ps_if (pt_cmpR op_eq (plen (K := K) T.bLen (pv 2)) pe_int (nomark _)) (pss_one (ps_ret (pe_callE (hF tb2) hr pass0 (pe_md (tb := tb2) (pe_glob (v := .ref d2) (by rfl) m2 rfl) (pv 1) (fun _ _ => rfl)) (pa_cons (pv 0) (pa_cons (pxl (K := K) (pv 2) pe_int) (pa_cons (pxl (K := K) (pv 2) pe_int) pa_nil)))))) pss_nil)
      (pss_one (ps_ret (pe_callE (hF tb3) hr pass0 (pe_md (tb := tb3) (pe_glob (v := .ref d3) (by rfl) m3 rfl) (pv 1) (fun _ _ => rfl)) (pa_cons (pv 0) (pa_cons (pxl (K := K) (pv 2) pe_int) (pa_cons (pxl (K := K) (pv 2) pe_int) (pa_cons (pxl (K := K) (pv 2) pe_int) pa_nil)))))))))), ?_⟩
    by_cases hb : st = none ∧ j ≠ 0
    · obtain ⟨rfl, hj⟩ := hb
      have hnb : x ≠ .begin_ := fun z => hj ((begin_of hx).mpr z)
      obtain ⟨rfl, dx, l, lo, hi, op, sp, hc⟩ := hst
      refine ⟨_, rfl, rfl, _, rfl, ?_⟩
      rw [decide_eq_false (show ¬ (V.int ((j : Nat) : Int) = V.int 0) from fun z => by injection z with z; omega)]
      refine iteT ⟨_, rfl, cab, C, dx, _, _, rfl, hc, T.clC, T.naB, rfl, false, rfl, iteT ⟨by show 1 ≤ sizeLine; decide, fun q hq => ?_⟩⟩
      refine k _ q [] ?_ (fun b o e _ h => ⟨same_upd hq b o e, h⟩) hq ?_
      · rw [step_none hnb]
        exact ⟨rfl, dx, l, lo, hi, op, sp, same_upd hq _ _ hc⟩
      · rw [upd_same]
        unfold ansL
        rw [step_none hnb]
        rfl
    · have hb' : st = none → j = 0 := fun z => by
        by_cases q : j = 0
        · exact q
        · exact absurd ⟨z, q⟩ hb
      have test : ∀ Kont : Bool → Hp → Prop, Kont false H → tAnd (tTest (tOp rNe (tVar 1) (tC (.int 0)))) (tNot (tB (tFld K (tVar 0) "begun"))) (L2.start ["cable", "number", "given"] [.ref cab, .int (j : Nat), .ref g]) H Kont := fun Kont hk => by
        refine ⟨_, rfl, rfl, _, rfl, ?_⟩
        by_cases hj : j = 0
        · rw [decide_eq_true (show V.int ((j : Nat) : Int) = V.int 0 by rw [hj]; rfl)]
          exact iteF hk
        · rw [decide_eq_false (show ¬ (V.int ((j : Nat) : Int) = V.int 0) from fun z => by injection z with z; omega)]
          cases st with
          | none => exact absurd (hb' rfl) hj
          | some c =>
            obtain ⟨l, as, rfl, hc, hgd⟩ := hst
            obtain ⟨dx, hx0⟩ := hc.ins
            exact iteT ⟨_, rfl, cab, C, dx, _, _, rfl, hx0, T.clC, T.naB, rfl, true, rfl, hk⟩
      refine test _ (iteF ?_)
      have h3 := callN_len hx
      match args, hx, hg, h3, t0, t1, t2, t3 with
      | [], hx, hg, _, t0, t1, t2, t3 =>
        obtain ⟨f0, hlk, hfn⟩ := t0 j [] x hx rfl
        refine ⟨_, rfl, g, _, rfl, .inl (SqL.of hg), rfl, _, rfl, iteT ?_⟩
        exact ⟨_, rfl, d0, (j : Int), f0, rfl, md0, rfl, hlk, f0, j, rfl, ⟨hlk, hfn⟩, _, rfl, cab, own, st, [], x, rfl, hx, hst, hb', k⟩
      | [a], hx, hg, _, t0, t1, t2, t3 =>
        obtain ⟨f0, hlk, hfn⟩ := t1 j [a] x hx rfl
        refine ⟨_, rfl, g, _, rfl, .inl (SqL.of hg), rfl, _, rfl, iteF ?_⟩
        refine ⟨_, rfl, g, _, rfl, .inl (SqL.of hg), rfl, _, rfl, iteT ?_⟩
        exact ⟨_, rfl, d1, (j : Int), f0, rfl, md1, rfl, hlk, f0, j, rfl, ⟨hlk, hfn⟩, _, rfl, _, rfl, g, _, _, _, rfl, rfl, SqL.of hg, rfl, cab, own, st, [a], x, rfl, hx, hst, hb', k⟩
      | [a, b], hx, hg, _, t0, t1, t2, t3 =>
        obtain ⟨f0, hlk, hfn⟩ := t2 j [a, b] x hx rfl
        refine ⟨_, rfl, g, _, rfl, .inl (SqL.of hg), rfl, _, rfl, iteF ?_⟩
        refine ⟨_, rfl, g, _, rfl, .inl (SqL.of hg), rfl, _, rfl, iteF ?_⟩
        refine ⟨_, rfl, g, _, rfl, .inl (SqL.of hg), rfl, _, rfl, iteT ?_⟩
        exact ⟨_, rfl, d2, (j : Int), f0, rfl, md2, rfl, hlk, f0, j, rfl, ⟨hlk, hfn⟩, _, rfl, _, rfl, g, _, _, _, rfl, rfl, SqL.of hg, rfl, _, rfl, g, _, _, _, rfl, rfl, SqL.of hg, rfl, cab, own, st, [a, b], x, rfl, hx, hst, hb', k⟩
      | [a, b, c], hx, hg, _, t0, t1, t2, t3 =>
        obtain ⟨f0, hlk, hfn⟩ := t3 j [a, b, c] x hx rfl
        refine ⟨_, rfl, g, _, rfl, .inl (SqL.of hg), rfl, _, rfl, iteF ?_⟩
        refine ⟨_, rfl, g, _, rfl, .inl (SqL.of hg), rfl, _, rfl, iteF ?_⟩
        refine ⟨_, rfl, g, _, rfl, .inl (SqL.of hg), rfl, _, rfl, iteF ?_⟩
        exact ⟨_, rfl, d3, (j : Int), f0, rfl, md3, rfl, hlk, f0, j, rfl, ⟨hlk, hfn⟩, _, rfl, _, rfl, g, _, _, _, rfl, rfl, SqL.of hg, rfl, _, rfl, g, _, _, _, rfl, rfl, SqL.of hg, rfl, _, rfl, g, _, _, _, rfl, rfl, SqL.of hg, rfl, cab, own, st, [a, b, c], x, rfl, hx, hst, hb', k⟩
      | _ :: _ :: _ :: _ :: _, _, _, h3, _, _, _, _ => simp at h3
end
end Ff


set_option Elab.async false
set_option linter.all false
set_option maxRecDepth 100000
set_option maxHeartbeats 2000000
/-! The calls that open and tell. -/
namespace Ff
open PySem PySem.Spec PyProof.Rows L2
abbrev sOpenAt : Stmt := top 34
abbrev sFound : Stmt := top 35
abbrev sAgain : Stmt := top 36
abbrev sSumM : Stmt := top 46
abbrev sAllM : Stmt := top 47
abbrev sResist : Stmt := top 48
abbrev sMetresFor : Stmt := top 49
abbrev sPoint : Stmt := top 50
abbrev sLook : Stmt := top 51
abbrev sSums : Stmt := top 52
section
variable {P : Program} {w : World} {K : PySem.W.Frag} {mg : Str → Option Value} {base : Heap} {S C : Addr}
theorem After.put {H H' : Hp} {cab l : Addr} {as : List Addr} {c c' : Kp243.Cable} (h : CabAt S C H cab l as c) (es : c'.sections = c.sections) {dx : Addr} (hx : H' cab = some (.ins C dx (cabF true l c'.from_ c'.to c'.opened c'.spent))) (kp : ∀ b o, H b = some o → b ≠ cab → H' b = some o) : After S C H H' cab l as l as c' :=
  ⟨h.put es hx kp, fun b o e n1 n2 n3 => ⟨kp b o e n1, n2, n3⟩⟩
theorem After.new {H H' : Hp} {cab l l' q : Addr} {as as' : List Addr} {c' : Kp243.Cable} {o : HO} (h : After S C H H' cab l as l' as' c') (hq : H' q = none) : After S C H (upd H' q o) cab l as l' as' c' :=
  ⟨h.at_.same (same_upd hq), fun b u e n1 n2 n3 => let ⟨a1, a2, a3⟩ := h.keep b u e n1 n2 n3; ⟨same_upd hq _ _ a1, a2, a3⟩⟩
/-! ### open -/
theorem open_no (c : Kp243.Cable) (i d : Nat) (h : ¬ (c.from_ ≤ i ∧ i + 1 < c.to)) : outC c (.open_ i d) = c ∧ outA c (.open_ i d) = [-2] := by
  unfold outC outA Kp243.step
  simp only [if_pos (choices_no h)]
  exact ⟨rfl, rfl⟩
theorem choices_yes {c : Kp243.Cable} {i : Nat} (h : c.from_ ≤ i ∧ i + 1 < c.to) : ¬ (Kp243.choices c).contains i = false := by
  rw [(choices_mem c i).mpr h]; simp
theorem open_out (c : Kp243.Cable) (i d : Nat) (h : c.from_ ≤ i ∧ i + 1 < c.to) (hd : 1 < d) : outC c (.open_ i d) = c ∧ outA c (.open_ i d) = [-22] := by
  unfold outC outA Kp243.step
  simp only [if_neg (choices_yes h), if_pos hd]
  exact ⟨rfl, rfl⟩
theorem open_0 (c : Kp243.Cable) (i : Nat) (h : c.from_ ≤ i ∧ i + 1 < c.to) : outC c (.open_ i 0) = { c with to := i + 1, opened := c.opened + 1, spent := c.spent + (Kp243.at_ c i).opens } ∧ outA c (.open_ i 0) = [((i + 1 - c.from_ : Nat) : Int)] := by
  unfold outC outA Kp243.step
  simp only [if_neg (choices_yes h), if_neg (show ¬ 1 < 0 by omega)]
  exact ⟨rfl, rfl⟩
theorem open_1 (c : Kp243.Cable) (i : Nat) (h : c.from_ ≤ i ∧ i + 1 < c.to) : outC c (.open_ i 1) = { c with from_ := i + 1, opened := c.opened + 1, spent := c.spent + (Kp243.at_ c i).opens } ∧ outA c (.open_ i 1) = [((c.to - (i + 1) : Nat) : Int)] := by
  unfold outC outA Kp243.step
  simp only [if_neg (choices_yes h), if_neg (show ¬ 1 < 1 by omega)]
  exact ⟨rfl, rfl⟩
def mkN : List Nat → Kp243.Call | [i, d] => .open_ i d | _ => .sums
theorem scOpenAt : FnScope ["cable", "i", "side"] ["cable", "i", "side"] (defScope sOpenAt) := ⟨rfl, rfl, rfl, by decide +kernel, rfl, by decide +kernel, by decide +kernel⟩
theorem ok_open_at {f : Addr} {fd : FuncData} (T : Txt K mg S C) (dN : Def P w K mg base 1 "can_be_opened" ["cable", "i"] (spCan S C)) (F : Fun K "open_at" "open_at" sOpenAt f fd) : FnOk P w K mg base CX0 2 f fd ["cable", "i", "side"] (spDo S C 2 mkN) := by
  refine F.ok scOpenAt (fun vs H Q E h => ?_) (fun cdv A outer s H vs Q E hr h => ?_)
  · obtain ⟨cab, l, as, c, args, hl, rfl, _⟩ := h
    show (nV args).length + 1 = 3
    rw [nV_len, hl]
  · obtain ⟨cab, l, as, c, args, hl, rfl, hc, hg, k⟩ := h
    obtain ⟨i, d, rfl⟩ := len2 hl
    obtain ⟨dx, hx⟩ := hc.ins
    refine ⟨_, pss_cons (ps_if (pt_not (pt_val (pe_cl dN hr (pa_cons (pv 0) (pa_cons (pv 1) pa_nil))))) (pss_one (ps_ret (pe_lst (pa_cons (pe_ci T.mNoSuch) pa_nil)))) pss_nil)
      (pss_cons (ps_if (pt_cmpR op_gt (pv 2) pe_int (nomark _)) (pss_one (ps_ret (pe_lst (pa_cons (pe_ci T.mOut) pa_nil)))) pss_nil)
      (pss_cons (ps_if (pt_cmpR op_eq (pv 2) pe_int (nomark _)) (pss_one (ps_fld (pv 0) (pe_op op_add (pv 1) pe_int) rfl)) (pss_one (ps_fld (pv 0) (pe_op op_add (pv 1) pe_int) rfl)))
      (pss_cons (ps_fldaug (pv 0) pe_int in_add)
      (pss_cons (ps_fldaug (pv 0) (pfe (K := K) (pxl (K := K) (pf (K := K) 0) (pv 1))) in_add)
      (pss_one (ps_ret (pe_lst (pa_cons (pe_op op_sub (pf (K := K) 0) (pf (K := K) 0)) pa_nil)))))))), ?_⟩
    refine ⟨_, rfl, _, rfl, cab, l, as, c, i, rfl, hc, _, rfl, ite2 (fun h1 => ?_) fun h1 => ?_⟩
    · obtain ⟨o1, o2⟩ := open_no c i d (canB_not h1)
      refine ⟨by show 1 ≤ sizeLine; decide, fun q hq => k _ q l as ?_ hq ?_⟩
      · rw [show outC c (mkN [i, d]) = c from o1]
        exact After.same hc (same_upd hq)
      · rw [show outA c (mkN [i, d]) = _ from o2, upd_same]
        rfl
    have hcan := canB_yes h1
    have htn := hg.tn
    refine ⟨_, rfl, _, _, rfl, rfl, _, rfl, ite2 (fun h2 => ?_) fun h2 => ?_⟩
    · have z : (1 : Int) < (d : Int) := of_decide_eq_true h2
      obtain ⟨o1, o2⟩ := open_out c i d hcan (by omega)
      refine ⟨by show 1 ≤ sizeLine; decide, fun q hq => k _ q l as ?_ hq ?_⟩
      · rw [show outC c (mkN [i, d]) = c from o1]
        exact After.same hc (same_upd hq)
      · rw [show outA c (mkN [i, d]) = _ from o2, upd_same]
        rfl
    have h2' : ¬ ((1 : Int) < (d : Int)) := fun z => h2 (decide_eq_true z)
    have hsz : i < Kp243.size c := by omega
    obtain ⟨a, ha, ⟨dz, hz⟩, hci⟩ := hc.sec hsz
    obtain ⟨na1, na2⟩ := sec_ne hc ha
    have nlc : l ≠ cab := ne_of hc.secs.lst hx (by intro z; cases z)
    have hat : atI (as.map V.ref) (i : Int) = some (V.ref a) := atI_nat (by rw [List.getElem?_map, ha]; rfl)
    refine ⟨_, rfl, rfl, _, rfl, ite2 (fun h3 => ?_) fun h3 => ?_⟩
    · have z := of_decide_eq_true h3
      injection z with z
      have z' : (d : Int) = 0 := z
      have hd : d = 0 := by omega
      subst hd
      obtain ⟨o1, o2⟩ := open_0 c i hcan
      refine ⟨_, rfl, _, _, rfl, rfl, _, rfl, cab, C, dx, _, rfl, hx, T.clC, T.naH, by show 6 < 1000; decide, ?_⟩
      dsimp only
      rw [show ((i : Nat) : Int) + 1 = ((i + 1 : Nat) : Int) from rfl, put_high]
      refine ⟨_, rfl, cab, C, dx, _, _, rfl, upd_same, T.clC, T.naN, rfl, _, _, rfl, rfl, dx, _, upd_same, by show 6 < 1000; decide, ?_⟩
      dsimp only
      rw [show ((c.opened : Nat) : Int) + 1 = ((c.opened + 1 : Nat) : Int) from rfl, put_openings, upd_upd]
      generalize hH2 : upd H cab (.ins C dx (cabF true l c.from_ (i + 1) (c.opened + 1) c.spent)) = H2
      have kp2 : ∀ b o, H b = some o → b ≠ cab → H2 b = some o := fun b o e hb => by rw [← hH2, upd_ne hb]; exact e
      have hx2 : H2 cab = some (.ins C dx (cabF true l c.from_ (i + 1) (c.opened + 1) c.spent)) := by rw [← hH2]; exact upd_same
      refine ⟨_, rfl, cab, C, dx, _, _, rfl, hx2, T.clC, T.naP, rfl, _, rfl, cab, C, dx, _, _, rfl, hx2, T.clC, T.naS, rfl, _, rfl, l, _, _, _, rfl, rfl, SqL.of (kp2 _ _ hc.secs.lst nlc), hat, a, S, dz, _, _, rfl, kp2 _ _ hz na1, T.clS, T.naO, rfl, _, _, rfl, rfl, dx, _, hx2, by show 6 < 1000; decide, ?_⟩
      dsimp only
      rw [show ((c.spent : Nat) : Int) + ((Kp243.at_ c i).opens : Int) = ((c.spent + (Kp243.at_ c i).opens : Nat) : Int) from rfl, put_spent]
      generalize hH3 : upd H2 cab (.ins C dx (cabF true l c.from_ (i + 1) (c.opened + 1) (c.spent + (Kp243.at_ c i).opens))) = H3
      have kp3 : ∀ b o, H b = some o → b ≠ cab → H3 b = some o := fun b o e hb => by rw [← hH3, upd_ne hb]; exact kp2 b o e hb
      have hx3 : H3 cab = some (.ins C dx (cabF true l c.from_ (i + 1) (c.opened + 1) (c.spent + (Kp243.at_ c i).opens))) := by rw [← hH3]; exact upd_same
      refine ⟨_, rfl, cab, C, dx, _, _, rfl, hx3, T.clC, T.naH, rfl, _, rfl, cab, C, dx, _, _, rfl, hx3, T.clC, T.naL, rfl, _, _, rfl, rfl, by show 1 ≤ sizeLine; decide, fun q hq => ?_⟩
      refine k _ q l as ?_ (free_of kp3 hx3 hq) ?_
      · rw [show outC c (mkN [i, 0]) = _ from o1]
        exact (After.put (c' := { c with to := i + 1, opened := c.opened + 1, spent := c.spent + (Kp243.at_ c i).opens }) hc rfl hx3 kp3).new hq
      · rw [show outA c (mkN [i, 0]) = _ from o2, upd_same]
        dsimp only
        rw [show ((i + 1 : Nat) : Int) - (c.from_ : Int) = ((i + 1 - c.from_ : Nat) : Int) by omega]
        rfl
    · have hd : d = 1 := by
        by_cases q : d = 0
        · exact absurd (decide_eq_true (by rw [q]; rfl)) h3
        · omega
      subst hd
      obtain ⟨o1, o2⟩ := open_1 c i hcan
      refine ⟨_, rfl, _, _, rfl, rfl, _, rfl, cab, C, dx, _, rfl, hx, T.clC, T.naL, by show 6 < 1000; decide, ?_⟩
      dsimp only
      rw [show ((i : Nat) : Int) + 1 = ((i + 1 : Nat) : Int) from rfl, put_low]
      refine ⟨_, rfl, cab, C, dx, _, _, rfl, upd_same, T.clC, T.naN, rfl, _, _, rfl, rfl, dx, _, upd_same, by show 6 < 1000; decide, ?_⟩
      dsimp only
      rw [show ((c.opened : Nat) : Int) + 1 = ((c.opened + 1 : Nat) : Int) from rfl, put_openings, upd_upd]
      generalize hH2 : upd H cab (.ins C dx (cabF true l (i + 1) c.to (c.opened + 1) c.spent)) = H2
      have kp2 : ∀ b o, H b = some o → b ≠ cab → H2 b = some o := fun b o e hb => by rw [← hH2, upd_ne hb]; exact e
      have hx2 : H2 cab = some (.ins C dx (cabF true l (i + 1) c.to (c.opened + 1) c.spent)) := by rw [← hH2]; exact upd_same
      refine ⟨_, rfl, cab, C, dx, _, _, rfl, hx2, T.clC, T.naP, rfl, _, rfl, cab, C, dx, _, _, rfl, hx2, T.clC, T.naS, rfl, _, rfl, l, _, _, _, rfl, rfl, SqL.of (kp2 _ _ hc.secs.lst nlc), hat, a, S, dz, _, _, rfl, kp2 _ _ hz na1, T.clS, T.naO, rfl, _, _, rfl, rfl, dx, _, hx2, by show 6 < 1000; decide, ?_⟩
      dsimp only
      rw [show ((c.spent : Nat) : Int) + ((Kp243.at_ c i).opens : Int) = ((c.spent + (Kp243.at_ c i).opens : Nat) : Int) from rfl, put_spent]
      generalize hH3 : upd H2 cab (.ins C dx (cabF true l (i + 1) c.to (c.opened + 1) (c.spent + (Kp243.at_ c i).opens))) = H3
      have kp3 : ∀ b o, H b = some o → b ≠ cab → H3 b = some o := fun b o e hb => by rw [← hH3, upd_ne hb]; exact kp2 b o e hb
      have hx3 : H3 cab = some (.ins C dx (cabF true l (i + 1) c.to (c.opened + 1) (c.spent + (Kp243.at_ c i).opens))) := by rw [← hH3]; exact upd_same
      refine ⟨_, rfl, cab, C, dx, _, _, rfl, hx3, T.clC, T.naH, rfl, _, rfl, cab, C, dx, _, _, rfl, hx3, T.clC, T.naL, rfl, _, _, rfl, rfl, by show 1 ≤ sizeLine; decide, fun q hq => ?_⟩
      refine k _ q l as ?_ (free_of kp3 hx3 hq) ?_
      · rw [show outC c (mkN [i, 1]) = _ from o1]
        exact (After.put (c' := { c with from_ := i + 1, opened := c.opened + 1, spent := c.spent + (Kp243.at_ c i).opens }) hc rfl hx3 kp3).new hq
      · rw [show outA c (mkN [i, 1]) = _ from o2, upd_same]
        dsimp only
        rw [show (c.to : Int) - ((i + 1 : Nat) : Int) = ((c.to - (i + 1) : Nat) : Int) by omega]
        rfl
/-! ### found, again -/
theorem found_out (c : Kp243.Cable) : outC c .found = c ∧ outA c .found = [if c.to = c.from_ + 1 then (c.from_ : Int) else -33] := by
  unfold outC outA Kp243.step
  refine ⟨rfl, ?_⟩
  simp only
  by_cases h : c.to = c.from_ + 1
  · rw [if_pos h, if_pos h]
    rfl
  · rw [if_neg h, if_neg h]
    rfl
theorem scFound : FnScope ["cable"] ["cable"] (defScope sFound) := ⟨rfl, rfl, rfl, by decide +kernel, rfl, by decide +kernel, by decide +kernel⟩
theorem ok_found {f : Addr} {fd : FuncData} (T : Txt K mg S C) (F : Fun K "found" "found" sFound f fd) : FnOk P w K mg base CX0 1 f fd ["cable"] (spDo S C 0 (mk0 .found)) := by
  refine F.ok scFound (fun vs H Q E h => ?_) (fun cdv A outer s H vs Q E hr h => ?_)
  · obtain ⟨cab, l, as, c, args, hl, rfl, _⟩ := h
    show (nV args).length + 1 = 1
    rw [nV_len, hl]
  · obtain ⟨cab, l, as, c, args, hl, rfl, hc, hg, k⟩ := h
    obtain rfl := len0 hl
    obtain ⟨o1, o2⟩ := found_out c
    rw [show outC c (mk0 .found []) = c from o1, show outA c (mk0 .found []) = _ from o2] at k
    obtain ⟨dx, hx⟩ := hc.ins
    have hft := hg.ft
    refine ⟨_, pss_cons (ps_if (pt_cmpR op_ne (pe_op op_sub (pf (K := K) 0) (pf (K := K) 0)) pe_int (nomark _)) (pss_one (ps_ret (pe_lst (pa_cons (pe_ci T.mNoAnswer) pa_nil)))) pss_nil)
      (pss_one (ps_ret (pe_lst (pa_cons (pf (K := K) 0) pa_nil)))), ?_⟩
    refine ⟨_, rfl, cab, C, dx, _, _, rfl, hx, T.clC, T.naH, rfl, _, rfl, cab, C, dx, _, _, rfl, hx, T.clC, T.naL, rfl, _, _, rfl, rfl, rfl, _, rfl, ?_⟩
    by_cases hone : c.to = c.from_ + 1
    · rw [decide_eq_true (show V.int ((c.to : Int) - (c.from_ : Int)) = V.int 1 by rw [show (c.to : Int) - (c.from_ : Int) = 1 by omega])]
      refine iteF ⟨_, rfl, cab, C, dx, _, _, rfl, hx, T.clC, T.naL, rfl, by show 1 ≤ sizeLine; decide, fun q hq => k _ q l as (After.same hc (same_upd hq)) hq ?_⟩
      rw [upd_same, if_pos hone]
      rfl
    · rw [decide_eq_false (show ¬ (V.int ((c.to : Int) - (c.from_ : Int)) = V.int 1) from fun z => by injection z with z; omega)]
      refine iteT ⟨by show 1 ≤ sizeLine; decide, fun q hq => k _ q l as (After.same hc (same_upd hq)) hq ?_⟩
      rw [upd_same, if_neg hone]
      rfl
theorem scAgain : FnScope ["cable", "was"] ["cable"] (defScope sAgain) := ⟨rfl, rfl, rfl, by decide +kernel, rfl, by decide +kernel, by decide +kernel⟩
theorem ok_again {f : Addr} {fd : FuncData} (T : Txt K mg S C) (dO : Def P w K mg base 1 "start_over" ["cable"] (spOver C)) (F : Fun K "again" "again" sAgain f fd) : FnOk P w K mg base CX0 2 f fd ["cable"] (spDo S C 0 (mk0 .again)) := by
  refine F.ok scAgain (fun vs H Q E h => ?_) (fun cdv A outer s H vs Q E hr h => ?_)
  · obtain ⟨cab, l, as, c, args, hl, rfl, _⟩ := h
    show (nV args).length + 1 = 1
    rw [nV_len, hl]
  · obtain ⟨cab, l, as, c, args, hl, rfl, hc, hg, k⟩ := h
    obtain rfl := len0 hl
    obtain ⟨dx, hx⟩ := hc.ins
    refine ⟨_, pss_cons (ps_set (i := 1) scAgain.nd rfl (Or.inl rfl) (pf (K := K) 0)) (pss_cons (ps_expr (pe_cl dO hr (pa_cons (pv 0) pa_nil))) (pss_one (ps_ret (pe_lst (pa_cons (pv 1) pa_nil))))), ?_⟩
    refine ⟨_, rfl, cab, C, dx, _, _, rfl, hx, T.clC, T.naP, rfl, ?_⟩
    refine ⟨_, rfl, cab, dx, true, l, _, _, _, _, _, rfl, hx, hc.secs.lst, fun H1 hx1 kp1 => ?_⟩
    rw [List.length_map, hc.secs.len] at hx1
    refine ⟨_, rfl, by show 1 ≤ sizeLine; decide, fun q hq => k _ q l as ?_ (free_of kp1 hx1 hq) ?_⟩
    · exact (After.put (c' := { c with from_ := 0, to := Kp243.size c, opened := 0, spent := 0 }) hc rfl hx1 kp1).new hq
    · rw [upd_same]
      rfl
/-! ### metres -/
def spSumM (S : Addr) : Sp := fun vs H Q _ => ∃ l as ss, vs = [.ref l] ∧ SecsAt S H l as ss ∧ as.length ≤ 1000 ∧ ∀ H', Same H H' → Q (.int ((ss.map fun s => s.metres).sum : Nat)) H'
theorem scSumM : FnScope ["parts", "part"] ["parts"] (defScope sSumM) := ⟨rfl, rfl, rfl, by decide +kernel, rfl, by decide +kernel, by decide +kernel⟩
theorem ok_sum_m {f : Addr} {fd : FuncData} (T : Txt K mg S C) (F : Fun K "sum_of_metres" "sum_of_metres" sSumM f fd) : FnOk P w K mg base CX0 1 f fd ["parts"] (spSumM S) := by
  refine F.ok scSumM (fun vs H Q E h => ?_) (fun cdv A outer s H vs Q E hr h => ?_)
  · obtain ⟨l, as, ss, rfl, _⟩ := h
    rfl
  · obtain ⟨l, as, ss, rfl, hl, hz, k⟩ := h
    refine ⟨_, pss_one (ps_ret (pe_callB (cr_sum rfl) (by rfl) T.bSum boot_sum (pa_cons (pe_lc rfl scSumM.nd (pi_list (pv 0)) (blkOk_by (own := [("part", 1)]) (by rfl))
      (fun _ _ _ _ _ => pg_name (i := 1) scSumM.nd rfl (Or.inl rfl)) (fun _ _ _ _ _ => pts_nil) (fun _ _ _ _ _ => pf (K := K) 1)) pa_nil))), ?_⟩
    refine ⟨_, rfl, l, rfl, ⟨_, SqL.of hl.lst⟩, fun D hD => lc_list (K := K) (a := l) (xs := as.map V.ref) (fun i H' => H' D = some (.lst ((((ss.map fun s => s.metres).take i).map fun (n : Nat) => (n : Int)).map V.int)) ∧ Same H H') ⟨upd_same, same_upd hD⟩
      (fun i H' _ ⟨_, e⟩ => SqL.of (e _ _ hl.lst)) ?_ ?_⟩
    · rintro i x H' hx ⟨hD', e⟩
      rw [List.getElem?_map] at hx
      cases ha : as[i]? with
      | none => rw [ha] at hx; cases hx
      | some a =>
        rw [ha] at hx
        obtain rfl := Option.some.inj hx
        obtain ⟨z, hz1, hz2⟩ := hl.at_ i a ha
        obtain ⟨dz, hz3⟩ := hz2.same e
        refine ⟨rfl, ty1 ?_⟩
        refine ⟨_, rfl, a, S, dz, _, _, rfl, hz3, T.clS, T.naM, rfl, _, hD', ?_, ?_, ?_⟩
        · rw [List.length_map, List.length_map, List.length_take]
          exact small1000 (by have := hl.len; rw [List.length_map]; omega)
        · rw [upd_same, take_snoc (x := z.metres) (by rw [List.getElem?_map, hz1]; rfl), List.map_append, List.map_append]
          rfl
        · intro b o q
          have hb : b ≠ D := ne_of_none q hD
          rw [upd_ne hb]
          exact e b o q
    · rintro H' ⟨hD', e⟩
      rw [List.length_map, hl.len, ← List.length_map (f := fun s : Kp243.Section => s.metres), List.take_length] at hD'
      refine ⟨D, _, rfl, SqL.of hD', ?_⟩
      rw [sum_nat]
      exact k H' e
theorem d_sum_m {f : Addr} (T : Txt K mg S C) (F : TF K mg "sum_of_metres" sSumM f) : Def P w K mg base 1 "sum_of_metres" ["parts"] (spSumM S) :=
  F.def (fun _ => ok_sum_m T) fun _ _ _ _ _ _ us hl => match us, hl with | [_], _ => rfl
theorem scAllM : FnScope ["cable"] ["cable"] (defScope sAllM) := ⟨rfl, rfl, rfl, by decide +kernel, rfl, by decide +kernel, by decide +kernel⟩
theorem metres_out (c : Kp243.Cable) : outA c .metres = [(((c.sections.map fun s => s.metres).sum : Nat) : Int), (((c.sections.map res).sum : Nat) : Int)] := by
  show [((Kp243.sumOf _ : Nat) : Int), ((Kp243.total c : Nat) : Int)] = _
  rw [sumOf_sum, total_sum]
  rfl
theorem ok_all_metres {f : Addr} {fd : FuncData} (T : Txt K mg S C) (dM : Def P w K mg base 1 "sum_of_metres" ["parts"] (spSumM S)) (dA : Def P w K mg base 2 "all_resistance" ["parts"] (spAllRes S)) (F : Fun K "all_metres" "all_metres" sAllM f fd) : FnOk P w K mg base CX0 3 f fd ["cable"] (spDo S C 0 (mk0 .metres)) := by
  refine F.ok scAllM (fun vs H Q E h => ?_) (fun cdv A outer s H vs Q E hr h => ?_)
  · obtain ⟨cab, l, as, c, args, hl, rfl, _⟩ := h
    show (nV args).length + 1 = 1
    rw [nV_len, hl]
  · obtain ⟨cab, l, as, c, args, hl, rfl, hc, hg, k⟩ := h
    obtain rfl := len0 hl
    rw [show outC c (mk0 .metres []) = c from rfl, show outA c (mk0 .metres []) = _ from metres_out c] at k
    obtain ⟨dx, hx⟩ := hc.ins
    have hr1 : Room 1 _ := hr.mono (by decide)
    have h10 := hg.as10 hc
    refine ⟨_, pss_one (ps_ret (pe_lst (pa_cons (pe_cl dM hr1 (pa_cons (pf (K := K) 0) pa_nil)) (pa_cons (pe_cl dA hr (pa_cons (pf (K := K) 0) pa_nil)) pa_nil)))), ?_⟩
    refine ⟨_, rfl, cab, C, dx, _, _, rfl, hx, T.clC, T.naS, rfl, l, as, c.sections, rfl, hc.secs, by omega, fun H1 e1 => ?_⟩
    refine ⟨_, rfl, cab, C, dx, _, _, rfl, e1 _ _ hx, T.clC, T.naS, rfl, l, as, c.sections, rfl, hc.secs.same e1, hg.sec, by omega, fun H2 e2 => ?_⟩
    refine ⟨by show 2 ≤ sizeLine; decide, fun q hq => k _ q l as (After.same hc ((e1.trans e2).trans (same_upd hq))) ((e1.trans e2).free hq) ?_⟩
    rw [upd_same]
    rfl
/-! ### resist -/
theorem isSec_no {c : Kp243.Cable} {i : Nat} (h : ¬ i < Kp243.size c) : Kp243.isSection c i = false := by unfold Kp243.isSection; exact decide_eq_false h
theorem isSec_yes {c : Kp243.Cable} {i : Nat} (h : i < Kp243.size c) : ¬ Kp243.isSection c i = false := by unfold Kp243.isSection; rw [decide_eq_true h]; simp
theorem resist_out (c : Kp243.Cable) (i : Nat) : outC c (.resist i) = c ∧ outA c (.resist i) = if i < Kp243.size c then [((res (Kp243.at_ c i) : Nat) : Int), ((Kp243.ahead c i : Nat) : Int), ((bhd c i : Nat) : Int)] else [-2] := by
  unfold outC outA Kp243.step
  refine ⟨rfl, ?_⟩
  simp only
  by_cases h : i < Kp243.size c
  · rw [if_pos h, if_neg (isSec_yes h)]
    unfold bhd
    rw [behind_sum]
    rfl
  · rw [if_neg h, if_pos (isSec_no h)]
    rfl
def mkR : List Nat → Kp243.Call | [i] => .resist i | _ => .sums
theorem scResist : FnScope ["cable", "i"] ["cable", "i"] (defScope sResist) := ⟨rfl, rfl, rfl, by decide +kernel, rfl, by decide +kernel, by decide +kernel⟩
theorem ok_resist {f : Addr} {fd : FuncData} (T : Txt K mg S C) (dR : Def P w K mg base 1 "resistance" ["part"] (spRes S)) (dA : Def P w K mg base 3 "ahead" ["cable", "i"] (spRd1 S C fun c i => .int (Kp243.ahead c i : Nat))) (dB : Def P w K mg base 3 "behind" ["cable", "i"] (spRd1 S C fun c i => .int (bhd c i : Nat)))
    (F : Fun K "resist" "resist" sResist f fd) : FnOk P w K mg base CX0 4 f fd ["cable", "i"] (spDo S C 1 mkR) := by
  refine F.ok scResist (fun vs H Q E h => ?_) (fun cdv A outer s H vs Q E hr h => ?_)
  · obtain ⟨cab, l, as, c, args, hl, rfl, _⟩ := h
    show (nV args).length + 1 = 2
    rw [nV_len, hl]
  · obtain ⟨cab, l, as, c, args, hl, rfl, hc, hg, k⟩ := h
    obtain ⟨i, rfl⟩ := len1 hl
    obtain ⟨o1, o2⟩ := resist_out c i
    rw [show outC c (mkR [i]) = c from o1, show outA c (mkR [i]) = _ from o2] at k
    obtain ⟨dx, hx⟩ := hc.ins
    have hr1 : Room 1 _ := hr.mono (by decide)
    refine ⟨_, pss_cons (ps_if (pt_cmpR op_ge (pv 1) (plen (K := K) T.bLen (pf (K := K) 0)) (nomark _)) (pss_one (ps_ret (pe_lst (pa_cons (pe_ci T.mNoSuch) pa_nil)))) pss_nil)
      (pss_one (ps_ret (pe_lst (pa_cons (pe_cl dR hr1 (pa_cons (pxl (K := K) (pf (K := K) 0) (pv 1)) pa_nil)) (pa_cons (pe_cl dA hr (pa_cons (pv 0) (pa_cons (pv 1) pa_nil))) (pa_cons (pe_cl dB hr (pa_cons (pv 0) (pa_cons (pv 1) pa_nil))) pa_nil)))))), ?_⟩
    refine ⟨_, rfl, _, rfl, cab, C, dx, _, _, rfl, hx, T.clC, T.naS, rfl, l, _, rfl, .inl (SqL.of hc.secs.lst), _, _, rfl, rfl, _, rfl, ?_⟩
    rw [List.length_map, hc.secs.len, dec_le]
    refine ite2 (fun h1 => ?_) fun h1 => ?_
    · have hno : ¬ i < Kp243.size c := by
        have z := of_decide_eq_true h1
        unfold Kp243.size
        omega
      refine ⟨by show 1 ≤ sizeLine; decide, fun q hq => k _ q l as (After.same hc (same_upd hq)) hq ?_⟩
      rw [upd_same, if_neg hno]
      rfl
    · have hi : i < Kp243.size c := by
        by_cases z : c.sections.length ≤ i
        · exact absurd (decide_eq_true z) h1
        · unfold Kp243.size
          omega
      obtain ⟨a, ha, hs, hci⟩ := hc.sec hi
      have hat : atI (as.map V.ref) (i : Int) = some (V.ref a) := atI_nat (by rw [List.getElem?_map, ha]; rfl)
      refine ⟨_, rfl, cab, C, dx, _, _, rfl, hx, T.clC, T.naS, rfl, _, rfl, l, _, _, _, rfl, rfl, SqL.of hc.secs.lst, hat, a, _, rfl, hs, hg.at hi, ?_⟩
      refine ⟨_, rfl, _, rfl, cab, l, as, c, i, rfl, hc, hg, fun H1 e1 => ?_⟩
      refine ⟨_, rfl, _, rfl, cab, l, as, c, i, rfl, hc.same e1, hg, fun H2 e2 => ?_⟩
      refine ⟨by show 3 ≤ sizeLine; decide, fun q hq => k _ q l as (After.same hc ((e1.trans e2).trans (same_upd hq))) ((e1.trans e2).free hq) ?_⟩
      rw [upd_same, if_pos hi]
      rfl
/-! ### point -/
def spFor (S : Addr) : Sp := fun vs H Q _ => ∃ a s, ∃ much : Nat, vs = [.ref a, .int (much : Nat)] ∧ SecAt S H a s ∧ SecOk s ∧ Q (.int (upTo s.each much : Nat)) H
theorem scFor : FnScope ["part", "much"] ["part", "much"] (defScope sMetresFor) := ⟨rfl, rfl, rfl, by decide +kernel, rfl, by decide +kernel, by decide +kernel⟩
theorem ok_metres_for {f : Addr} {fd : FuncData} (T : Txt K mg S C) (F : Fun K "metres_for" "metres_for" sMetresFor f fd) : FnOk P w K mg base CX0 1 f fd ["part", "much"] (spFor S) := by
  refine F.ok scFor (fun vs H Q E h => ?_) (fun cdv A outer s H vs Q E hr h => ?_)
  · obtain ⟨a, s, m, rfl, _⟩ := h
    rfl
  · obtain ⟨a, z, m, rfl, ⟨dx, ha⟩, so, k⟩ := h
    refine ⟨_, pss_cons (ps_if (pt_cmpR op_eq (pf (K := K) 0) pe_int (nomark _)) (pss_one (ps_ret pe_int)) pss_nil)
      (pss_one (ps_ret (pe_op op_fdiv (pe_op op_sub (pe_op op_add (pv 1) (pf (K := K) 0)) pe_int) (pf (K := K) 0)))), ?_⟩
    have he := so.e2
    refine ⟨_, rfl, a, S, dx, _, _, rfl, ha, T.clS, T.naE, rfl, rfl, _, rfl, ite2 (fun h1 => ?_) fun h1 => ?_⟩
    · have q := of_decide_eq_true h1
      injection q with q
      have q0 : z.each = 0 := by omega
      unfold upTo at k
      rw [if_pos q0] at k
      exact k
    · have q0 : z.each ≠ 0 := fun q => h1 (decide_eq_true (by rw [q]; rfl))
      refine ⟨_, rfl, _, rfl, a, S, dx, _, _, rfl, ha, T.clS, T.naE, rfl, _, _, rfl, rfl, _, _, rfl, rfl, _, rfl, a, S, dx, _, _, rfl, ha, T.clS, T.naE, rfl, _, _, rfl, rfl, ⟨by omega, by omega⟩, ?_⟩
      unfold upTo at k
      rw [if_neg q0] at k
      dsimp only
      rw [show (m : Int) + (z.each : Int) - 1 = ((m + z.each - 1 : Nat) : Int) by omega, ← Int.natCast_ediv]
      exact k
theorem d_metres_for {f : Addr} (T : Txt K mg S C) (F : TF K mg "metres_for" sMetresFor f) : Def P w K mg base 1 "metres_for" ["part", "much"] (spFor S) :=
  F.def (fun _ => ok_metres_for T) fun _ _ _ _ _ _ us hl => match us, hl with | [_, _], _ => rfl
theorem point_out (c : Kp243.Cable) (r : Nat) : outC c (.point r) = c ∧ outA c (.point r) = [match Kp243.pointFrom c Kp243.SECTIONS 0 r with | some n => (n : Int) | none => -33] := by
  unfold outC outA Kp243.step
  refine ⟨rfl, ?_⟩
  simp only
  cases Kp243.pointFrom c Kp243.SECTIONS 0 r <;> rfl
def mkT : List Nat → Kp243.Call | [r] => .point r | _ => .sums
theorem scPoint : FnScope ["cable", "r", "parts", "i"] ["cable", "r"] (defScope sPoint) := ⟨rfl, rfl, rfl, by decide +kernel, rfl, by decide +kernel, by decide +kernel⟩
theorem ok_point {f : Addr} {fd : FuncData} (T : Txt K mg S C) (dM : Def P w K mg base 1 "sum_of_metres" ["parts"] (spSumM S)) (dL : Def P w K mg base 2 "all_resistance" ["parts"] (spAllRes S)) (dA : Def P w K mg base 3 "ahead" ["cable", "i"] (spRd1 S C fun c i => .int (Kp243.ahead c i : Nat))) (dF : Def P w K mg base 1 "metres_for" ["part", "much"] (spFor S))
    (F : Fun K "point" "point" sPoint f fd) : FnOk P w K mg base CX0 4 f fd ["cable", "r"] (spDo S C 1 mkT) := by
  refine F.ok scPoint (fun vs H Q E h => ?_) (fun cdv A outer s H vs Q E hr h => ?_)
  · obtain ⟨cab, l, as, c, args, hl, rfl, _⟩ := h
    show (nV args).length + 1 = 2
    rw [nV_len, hl]
  · obtain ⟨cab, l, as, c, args, hl, rfl, hc, hg, k⟩ := h
    obtain ⟨r, rfl⟩ := len1 hl
    obtain ⟨o1, o2⟩ := point_out c r
    rw [show outC c (mkT [r]) = c from o1, show outA c (mkT [r]) = _ from o2] at k
    obtain ⟨dx, hx⟩ := hc.ins
    have hr1 : Room 1 _ := hr.mono (by decide)
    have hr2 : Room 2 _ := hr.mono (by decide)
    have h10 := hg.as10 hc
    have hn10 := hg.n10
    refine ⟨_, pss_cons (ps_set (i := 2) scPoint.nd rfl (Or.inl rfl) (pf (K := K) 0))
      (pss_cons (ps_if (PW.pt (pw_or (pt_cmpR op_eq (plen (K := K) T.bLen (pv 2)) pe_int (nomark _)) (pw_or1 (pt_cmpR op_lt (pe_cl dL hr2 (pa_cons (pv 2) pa_nil)) (pv 1) (nomark _))))) (pss_one (ps_ret (pe_lst (pa_cons (pe_ci T.mNoAnswer) pa_nil)))) pss_nil)
      (pss_cons (ps_set (i := 3) scPoint.nd rfl (Or.inl rfl) pe_int)
      (pss_cons (ps_while PassesOwn.never (pt_cmpR op_lt (pe_cl dL hr2 (pa_cons (pe_slice sl_list (pv 2) po_none (po_some (pe_op op_add (pv 3) pe_int))) pa_nil)) (pv 1) (nomark _))
        (pss_one (ps_aug (i := 3) scPoint.nd rfl (Or.inl rfl) pe_int ip_add)))
      (pss_one (ps_ret (pe_lst (pa_cons (pe_op op_add (pe_cl dM hr1 (pa_cons (pe_slice sl_list (pv 2) po_none (po_some (pv 3))) pa_nil))
        (pe_cl dF hr1 (pa_cons (pxl (K := K) (pv 2) (pv 3)) (pa_cons (pe_op op_sub (pv 1) (pe_cl dA hr (pa_cons (pv 0) (pa_cons (pv 3) pa_nil)))) pa_nil)))) pa_nil))))))), ?_⟩
    refine ⟨_, rfl, cab, C, dx, _, _, rfl, hx, T.clC, T.naS, rfl, ?_⟩
    refine ⟨_, rfl, l, _, rfl, .inl (SqL.of hc.secs.lst), rfl, _, rfl, ?_⟩
    rw [List.length_map, hc.secs.len]
    have etot : (c.sections.map res).sum = Kp243.total c := (total_sum c).symm
    refine ite2 (fun h1 => ?_) fun h1 => ?_
    · have z := of_decide_eq_true h1
      injection z with z
      have z0 : Kp243.size c = 0 := by unfold Kp243.size; omega
      refine iteT ⟨by show 1 ≤ sizeLine; decide, fun q hq => k _ q l as (After.same hc (same_upd hq)) hq ?_⟩
      rw [upd_same, point_none c r (.inl z0)]
      rfl
    have hpos : 0 < Kp243.size c := by
      have : c.sections.length ≠ 0 := fun z => h1 (decide_eq_true (by rw [z]; rfl))
      unfold Kp243.size
      omega
    refine ⟨_, rfl, l, as, c.sections, rfl, hc.secs, hg.sec, by omega, fun H1 e1 => ?_⟩
    refine ⟨_, rfl, _, _, rfl, rfl, _, rfl, ?_⟩
    rw [etot, dec_lt]
    refine ite2 (fun h2 => ?_) fun h2 => ?_
    · refine ⟨by show 1 ≤ sizeLine; decide, fun q hq => k _ q l as (After.same hc (e1.trans (same_upd hq))) (e1.free hq) ?_⟩
      rw [upd_same, point_none c r (.inr (of_decide_eq_true h2))]
      rfl
    have hle : r ≤ Kp243.total c := by
      by_cases z : Kp243.total c < r
      · exact absurd (decide_eq_true z) h2
      · omega
    obtain ⟨t, ht, ht2, ht3⟩ := point_ex c r hpos hle
    refine while_by (fun σ H' => ∃ i : Nat, σ = [some (.ref cab), some (.int (r : Nat)), some (.ref l), some (.int (i : Nat))] ∧ i ≤ t ∧ Same H H')
      (fun σ _ => match σ with | [_, _, _, some (.int i)] => t - i.toNat | _ => 0) ?_ ?_ ?_
    · exact ⟨0, rfl, Nat.zero_le _, e1⟩
    · rintro σ H2 ⟨i, rfl, hi, e2⟩
      have hc2 := hc.same e2
      refine ⟨_, rfl, _, rfl, _, _, rfl, rfl, _, rfl, l, _, rfl, SqL.of hc2.secs.lst, fun p hp => ?_⟩
      rw [show (i : Int) + 1 = ((i + 1 : Nat) : Int) from rfl, cut_take, ← List.map_take]
      refine ⟨p, as.take (i + 1), c.sections.take (i + 1), rfl, hc2.secs.take (i + 1) hp, fun s hs => hg.sec s (List.mem_of_mem_take hs), by rw [List.length_take]; omega, fun H3 e3 => ?_⟩
      have e23 := (e2.trans (same_upd hp)).trans e3
      refine ⟨_, rfl, _, _, rfl, rfl, _, rfl, ?_⟩
      rw [ress_take, dec_lt]
      refine ite2 (fun h3 => ?_) fun h3 => ?_
      · have z : Kp243.ahead c (i + 1) < r := of_decide_eq_true h3
        have hit : i ≠ t := fun q => by rw [q] at z; omega
        refine ⟨_, rfl, _, _, rfl, rfl, ⟨i + 1, rfl, by omega, e23⟩, ?_⟩
        show t - (((i : Nat) : Int) + 1).toNat < t - ((i : Nat) : Int).toNat
        omega
      · have z : ¬ Kp243.ahead c (i + 1) < r := fun z => h3 (decide_eq_true z)
        have hit : i = t := by
          by_cases q : i < t
          · exact absurd (ht3 i q) z
          · omega
        subst hit
        have hc3 := hc.same e23
        refine ⟨_, rfl, _, rfl, _, rfl, l, _, rfl, SqL.of hc3.secs.lst, fun p2 hp2 => ?_⟩
        rw [cut_take, ← List.map_take]
        refine ⟨p2, as.take i, c.sections.take i, rfl, hc3.secs.take i hp2, by rw [List.length_take]; omega, fun H4 e4 => ?_⟩
        have e24 := (e23.trans (same_upd hp2)).trans e4
        have hc4 := hc.same e24
        obtain ⟨a, ha, hs, hci⟩ := hc4.sec ht
        have hat : atI (as.map V.ref) (i : Int) = some (V.ref a) := atI_nat (by rw [List.getElem?_map, ha]; rfl)
        refine ⟨_, rfl, _, rfl, l, _, _, _, rfl, rfl, SqL.of hc4.secs.lst, hat, ?_⟩
        refine ⟨_, rfl, _, rfl, _, rfl, cab, l, as, c, i, rfl, hc4, hg, fun H5 e5 => ?_⟩
        have e25 := e24.trans e5
        have hah : Kp243.ahead c i ≤ r := by
          cases i with
          | zero => show 0 ≤ r; omega
          | succ j => exact Nat.le_of_lt (ht3 j (by omega))
        refine ⟨_, _, rfl, rfl, a, Kp243.at_ c i, r - Kp243.ahead c i, ?_, hs.same e5, hg.at ht, ?_⟩
        · show [V.ref a, V.int ((r : Int) - (Kp243.ahead c i : Int))] = [V.ref a, V.int ((r - Kp243.ahead c i : Nat) : Int)]
          rw [show (r : Int) - (Kp243.ahead c i : Int) = ((r - Kp243.ahead c i : Nat) : Int) by omega]
        refine ⟨_, _, rfl, rfl, by show 1 ≤ sizeLine; decide, fun q hq => k _ q l as (After.same hc (e25.trans (same_upd hq))) (e25.free hq) ?_⟩
        rw [upd_same, point_some c r i hn10 ht ht2 ht3, sumOf_sum]
        rfl
    · rintro σ H3 Q1 Q2 hq ⟨v, e1, v2, e2, i, j, e3, e4, i2, e5, a, ys, e6, e7, q⟩
      refine ⟨v, e1, v2, e2, i, j, e3, e4, i2, e5, a, ys, e6, e7, fun p hp => ?_⟩
      obtain ⟨l', as', ss', x1, x2, x3, x4, x5⟩ := q p hp
      refine ⟨l', as', ss', x1, x2, x3, x4, fun H' eH => ?_⟩
      obtain ⟨y1, y2, y3, y4, y5, y6, y7, y8, y9⟩ := x5 H' eH
      exact ⟨y1, y2, y3, y4, y5, y6, y7, y8, hq _ _ y9⟩
/-! ### look, sums -/
theorem look_out (c : Kp243.Cable) (i : Nat) : outC c (.look i) = c ∧ outA c (.look i) = if i < Kp243.size c then [((Kp243.at_ c i).metres : Int), ((Kp243.at_ c i).each : Int), ((Kp243.at_ c i).opens : Int)] else [-2] := by
  unfold outC outA Kp243.step
  refine ⟨rfl, ?_⟩
  simp only
  by_cases h : i < Kp243.size c
  · rw [if_pos h, if_neg (isSec_yes h)]
    rfl
  · rw [if_neg h, if_pos (isSec_no h)]
    rfl
def mkL : List Nat → Kp243.Call | [i] => .look i | _ => .sums
theorem scLook : FnScope ["cable", "i", "part"] ["cable", "i"] (defScope sLook) := ⟨rfl, rfl, rfl, by decide +kernel, rfl, by decide +kernel, by decide +kernel⟩
theorem ok_look {f : Addr} {fd : FuncData} (T : Txt K mg S C) (F : Fun K "look" "look" sLook f fd) : FnOk P w K mg base CX0 1 f fd ["cable", "i"] (spDo S C 1 mkL) := by
  refine F.ok scLook (fun vs H Q E h => ?_) (fun cdv A outer s H vs Q E hr h => ?_)
  · obtain ⟨cab, l, as, c, args, hl, rfl, _⟩ := h
    show (nV args).length + 1 = 2
    rw [nV_len, hl]
  · obtain ⟨cab, l, as, c, args, hl, rfl, hc, hg, k⟩ := h
    obtain ⟨i, rfl⟩ := len1 hl
    obtain ⟨o1, o2⟩ := look_out c i
    rw [show outC c (mkL [i]) = c from o1, show outA c (mkL [i]) = _ from o2] at k
    obtain ⟨dx, hx⟩ := hc.ins
    refine ⟨_, pss_cons (ps_if (pt_cmpR op_ge (pv 1) (plen (K := K) T.bLen (pf (K := K) 0)) (nomark _)) (pss_one (ps_ret (pe_lst (pa_cons (pe_ci T.mNoSuch) pa_nil)))) pss_nil)
      (pss_cons (ps_set (i := 2) scLook.nd rfl (Or.inl rfl) (pxl (K := K) (pf (K := K) 0) (pv 1)))
      (pss_one (ps_ret (pe_lst (pa_cons (pf (K := K) 2) (pa_cons (pf (K := K) 2) (pa_cons (pf (K := K) 2) pa_nil))))))), ?_⟩
    refine ⟨_, rfl, _, rfl, cab, C, dx, _, _, rfl, hx, T.clC, T.naS, rfl, l, _, rfl, .inl (SqL.of hc.secs.lst), _, _, rfl, rfl, _, rfl, ?_⟩
    rw [List.length_map, hc.secs.len, dec_le]
    refine ite2 (fun h1 => ?_) fun h1 => ?_
    · have hno : ¬ i < Kp243.size c := by
        have z := of_decide_eq_true h1
        unfold Kp243.size
        omega
      refine ⟨by show 1 ≤ sizeLine; decide, fun q hq => k _ q l as (After.same hc (same_upd hq)) hq ?_⟩
      rw [upd_same, if_neg hno]
      rfl
    · have hi : i < Kp243.size c := by
        by_cases z : c.sections.length ≤ i
        · exact absurd (decide_eq_true z) h1
        · unfold Kp243.size
          omega
      obtain ⟨a, ha, ⟨dz, hz⟩, hci⟩ := hc.sec hi
      have hat : atI (as.map V.ref) (i : Int) = some (V.ref a) := atI_nat (by rw [List.getElem?_map, ha]; rfl)
      refine ⟨_, rfl, cab, C, dx, _, _, rfl, hx, T.clC, T.naS, rfl, _, rfl, l, _, _, _, rfl, rfl, SqL.of hc.secs.lst, hat, ?_⟩
      refine ⟨_, rfl, a, S, dz, _, _, rfl, hz, T.clS, T.naM, rfl, _, rfl, a, S, dz, _, _, rfl, hz, T.clS, T.naE, rfl, _, rfl, a, S, dz, _, _, rfl, hz, T.clS, T.naO, rfl, by show 3 ≤ sizeLine; decide, fun q hq => ?_⟩
      refine k _ q l as (After.same hc (same_upd hq)) hq ?_
      rw [upd_same, if_pos hi]
      rfl
theorem scSums : FnScope ["cable"] ["cable"] (defScope sSums) := ⟨rfl, rfl, rfl, by decide +kernel, rfl, by decide +kernel, by decide +kernel⟩
theorem ok_sums {f : Addr} {fd : FuncData} (T : Txt K mg S C) (F : Fun K "sums" "sums" sSums f fd) : FnOk P w K mg base CX0 1 f fd ["cable"] (spDo S C 0 (mk0 .sums)) := by
  refine F.ok scSums (fun vs H Q E h => ?_) (fun cdv A outer s H vs Q E hr h => ?_)
  · obtain ⟨cab, l, as, c, args, hl, rfl, _⟩ := h
    show (nV args).length + 1 = 1
    rw [nV_len, hl]
  · obtain ⟨cab, l, as, c, args, hl, rfl, hc, hg, k⟩ := h
    obtain rfl := len0 hl
    obtain ⟨dx, hx⟩ := hc.ins
    refine ⟨_, pss_one (ps_ret (pe_lst (pa_cons (plen (K := K) T.bLen (pf (K := K) 0)) (pa_cons (pf (K := K) 0) (pa_cons (pf (K := K) 0) (pa_cons (pf (K := K) 0) (pa_cons (pf (K := K) 0) pa_nil))))))), ?_⟩
    refine ⟨_, rfl, cab, C, dx, _, _, rfl, hx, T.clC, T.naS, rfl, l, _, rfl, .inl (SqL.of hc.secs.lst), ?_⟩
    rw [List.length_map, hc.secs.len]
    refine ⟨_, rfl, cab, C, dx, _, _, rfl, hx, T.clC, T.naL, rfl, _, rfl, cab, C, dx, _, _, rfl, hx, T.clC, T.naH, rfl, _, rfl, cab, C, dx, _, _, rfl, hx, T.clC, T.naN, rfl, _, rfl, cab, C, dx, _, _, rfl, hx, T.clC, T.naP, rfl, by show 5 ≤ sizeLine; decide, fun q hq => ?_⟩
    refine k _ q l as (After.same hc (same_upd hq)) hq ?_
    rw [upd_same]
    rfl
end
end Ff


set_option Elab.async false
set_option linter.all false
set_option maxRecDepth 100000
set_option maxHeartbeats 2000000
/-! All defs together. -/
namespace Ff
open PySem PySem.Spec PyProof.Rows L2
section
variable {P : Program} {w : World} {K : PySem.W.Frag} {mg : Str → Option Value} {base : Heap} {S C : Addr}
def Ent (P : Program) (w : World) (K : PySem.W.Frag) (mg : Str → Option Value) (base : Heap) (S C : Addr) (j : Nat) (f : Addr) : Prop := ∃ fd ps, FnOk P w K mg base CX0 6 f fd ps (spOne S C j) ∧ PySem.W.keepIn K (.ref f) = true ∧ Binds K fd ps []
theorem entry {x : Str} {st : Stmt} {f : Addr} {ps : List Str} {k n j : Nat} {mk : List Nat → Kp243.Call} (t : TF K mg x st f) (h : ∀ fd, Fun K x x st f fd → FnOk P w K mg base CX0 k f fd ps (spDo S C n mk)) (hk : k ≤ 6) (hj : j ≠ 0)
    (hmk : ∀ args y, callN j args = some y → args.length = n ∧ mk args = y)
    (hb : ∀ (kV doc pm : Value) (an : Option Addr) (cdv ct : Value) (us : List Value), us.length = ps.length → bindArgs (PySem.W.fnOf x x (defArgs st) (defBody st) (defScope st) .none kV doc pm an cdv ct) ⟨us, []⟩ = pure (ps.zip us)) : Ent P w K mg base S C j f := by
  obtain ⟨fd, F⟩ := t.ex
  exact ⟨fd, ps, one_of ((h fd F).mono hk) hj hmk, F.kp, F.binds hb⟩
theorem entry0 {f : Addr} (t : TF K mg "begin" sBegin f) (h : ∀ fd, Fun K "begin" "begin" sBegin f fd → FnOk P w K mg base CX0 2 f fd ["cable"] (spBegin S C)) : Ent P w K mg base S C 0 f := by
  obtain ⟨fd, F⟩ := t.ex
  exact ⟨fd, ["cable"], one_begin ((h fd F).mono (by decide)), F.kp, F.binds fun _ _ _ _ _ _ us hl => match us, hl with | [_], _ => rfl⟩
structure Lows (K : PySem.W.Frag) (mg : Str → Option Value) : Prop where
  resistance_ : ∃ f, TF K mg "resistance" sResistance f
  all_resistance_ : ∃ f, TF K mg "all_resistance" sAllResistance f
  ahead_ : ∃ f, TF K mg "ahead" sAhead f
  behind_ : ∃ f, TF K mg "behind" sBehind f
  is_cost_ : ∃ f, TF K mg "is_cost" sIsCost f
  start_over_ : ∃ f, TF K mg "start_over" sOver f
  fits_ : ∃ f, TF K mg "fits" sFits f
  may_be_ : ∃ f, TF K mg "may_be" sMayBe f
  left_by_measure_ : ∃ f, TF K mg "left_by_measure" sLeftM f
  left_by_other_ : ∃ f, TF K mg "left_by_other" sLeftO f
  narrow_ : ∃ f, TF K mg "narrow" sNarrow f
  can_be_opened_ : ∃ f, TF K mg "can_be_opened" sCan f
  costs_by_first_ : ∃ f, TF K mg "costs_by_first" sCosts f
  best_costs_ : ∃ f, TF K mg "best_costs" sBest f
  opens_first_ : ∃ f, TF K mg "opens_first" sOpensFirst f
  prices_of_ : ∃ f, TF K mg "prices_of" sPricesOf f
  sum_of_metres_ : ∃ f, TF K mg "sum_of_metres" sSumM f
  metres_for_ : ∃ f, TF K mg "metres_for" sMetresFor f
  answer_ : ∃ f, TF K mg "answer" sAnswer f
structure Tb0 (K : PySem.W.Frag) (mg : Str → Option Value) (f0 f6 f7 f8 f10 f13 f14 f15 f19 : Addr) : Prop where
  t0 : TF K mg "begin" sBegin f0
  t6 : TF K mg "where" sWhere f6
  t7 : TF K mg "least" sLeast f7
  t8 : TF K mg "first" sFirst f8
  t10 : TF K mg "fewest" sFewest f10
  t13 : TF K mg "found" sFound f13
  t14 : TF K mg "again" sAgain f14
  t15 : TF K mg "all_metres" sAllM f15
  t19 : TF K mg "sums" sSums f19
  md : ∃ d, mg "WITH_NONE" = some (.ref d) ∧ MdD K d [(0, f0), (6, f6), (7, f7), (8, f8), (10, f10), (13, f13), (14, f14), (15, f15), (19, f19)]
structure Tb1 (K : PySem.W.Frag) (mg : Str → Option Value) (f9 f11 f16 f17 f18 : Addr) : Prop where
  t9 : TF K mg "would" sWould f9
  t11 : TF K mg "spends" sSpends f11
  t16 : TF K mg "resist" sResist f16
  t17 : TF K mg "point" sPoint f17
  t18 : TF K mg "look" sLook f18
  md : ∃ d, mg "WITH_ONE" = some (.ref d) ∧ MdD K d [(9, f9), (11, f11), (16, f16), (17, f17), (18, f18)]
structure Tb2 (K : PySem.W.Frag) (mg : Str → Option Value) (f2 f3 f4 f5 f12 : Addr) : Prop where
  t2 : TF K mg "cost" sCost f2
  t3 : TF K mg "measure" sMeasure f3
  t4 : TF K mg "other" sOther f4
  t5 : TF K mg "could" sCould f5
  t12 : TF K mg "open_at" sOpenAt f12
  md : ∃ d, mg "WITH_TWO" = some (.ref d) ∧ MdD K d [(2, f2), (3, f3), (4, f4), (5, f5), (12, f12)]
structure Tb3 (K : PySem.W.Frag) (mg : Str → Option Value) (f1 : Addr) : Prop where
  t1 : TF K mg "section" sSection f1
  md : ∃ d, mg "WITH_THREE" = some (.ref d) ∧ MdD K d [(1, f1)]
theorem call0_j {j : Nat} {y : Kp243.Call} (h : call0 j  = some y) : j = 0 ∨ j = 6 ∨ j = 7 ∨ j = 8 ∨ j = 10 ∨ j = 13 ∨ j = 14 ∨ j = 15 ∨ j = 19 := by
  unfold call0 at h
  repeat' split at h
  all_goals first | (cases h; done) | (rename_i q; rw [q]; done) | (rename_i q; rw [q]; decide)
theorem callN_0 {j : Nat} {args : List Nat} {y : Kp243.Call} (h : callN j args = some y) (hl : args.length = 0) : j = 0 ∨ j = 6 ∨ j = 7 ∨ j = 8 ∨ j = 10 ∨ j = 13 ∨ j = 14 ∨ j = 15 ∨ j = 19 := by
  obtain rfl := len0 hl
  exact call0_j h
theorem call1_j {j : Nat} {a : Nat} {y : Kp243.Call} (h : call1 j a = some y) : j = 9 ∨ j = 11 ∨ j = 16 ∨ j = 17 ∨ j = 18 := by
  unfold call1 at h
  repeat' split at h
  all_goals first | (cases h; done) | (rename_i q; rw [q]; done) | (rename_i q; rw [q]; decide)
theorem callN_1 {j : Nat} {args : List Nat} {y : Kp243.Call} (h : callN j args = some y) (hl : args.length = 1) : j = 9 ∨ j = 11 ∨ j = 16 ∨ j = 17 ∨ j = 18 := by
  obtain ⟨a, rfl⟩ := len1 hl
  exact call1_j h
theorem call2_j {j : Nat} {a b : Nat} {y : Kp243.Call} (h : call2 j a b = some y) : j = 2 ∨ j = 3 ∨ j = 4 ∨ j = 5 ∨ j = 12 := by
  unfold call2 at h
  repeat' split at h
  all_goals first | (cases h; done) | (rename_i q; rw [q]; done) | (rename_i q; rw [q]; decide)
theorem callN_2 {j : Nat} {args : List Nat} {y : Kp243.Call} (h : callN j args = some y) (hl : args.length = 2) : j = 2 ∨ j = 3 ∨ j = 4 ∨ j = 5 ∨ j = 12 := by
  obtain ⟨a, b, rfl⟩ := len2 hl
  exact call2_j h
theorem call3_j {j : Nat} {a b c : Nat} {y : Kp243.Call} (h : call3 j a b c = some y) : j = 1 := by
  unfold call3 at h
  repeat' split at h
  all_goals first | (cases h; done) | (rename_i q; rw [q]; done) | (rename_i q; rw [q]; decide)
theorem callN_3 {j : Nat} {args : List Nat} {y : Kp243.Call} (h : callN j args = some y) (hl : args.length = 3) : j = 1 := by
  obtain ⟨a, b, c, rfl⟩ := len3 hl
  exact call3_j h
theorem tab0 {f0 f6 f7 f8 f10 f13 f14 f15 f19 : Addr} (md : ∃ d, mg "WITH_NONE" = some (.ref d) ∧ MdD K d [(0, f0), (6, f6), (7, f7), (8, f8), (10, f10), (13, f13), (14, f14), (15, f15), (19, f19)]) (e0 : Ent P w K mg base S C 0 f0) (e6 : Ent P w K mg base S C 6 f6) (e7 : Ent P w K mg base S C 7 f7) (e8 : Ent P w K mg base S C 8 f8) (e10 : Ent P w K mg base S C 10 f10) (e13 : Ent P w K mg base S C 13 f13) (e14 : Ent P w K mg base S C 14 f14) (e15 : Ent P w K mg base S C 15 f15) (e19 : Ent P w K mg base S C 19 f19) : Tab P w K mg base S C 0 "WITH_NONE" := by
  obtain ⟨d, h1, h2⟩ := md
  refine ⟨d, _, h1, h2, fun j args y hy hl => ?_⟩
  rcases callN_0 hy hl with rfl | rfl | rfl | rfl | rfl | rfl | rfl | rfl | rfl
  · exact ⟨f0, rfl, e0⟩
  · exact ⟨f6, rfl, e6⟩
  · exact ⟨f7, rfl, e7⟩
  · exact ⟨f8, rfl, e8⟩
  · exact ⟨f10, rfl, e10⟩
  · exact ⟨f13, rfl, e13⟩
  · exact ⟨f14, rfl, e14⟩
  · exact ⟨f15, rfl, e15⟩
  · exact ⟨f19, rfl, e19⟩
theorem tab1 {f9 f11 f16 f17 f18 : Addr} (md : ∃ d, mg "WITH_ONE" = some (.ref d) ∧ MdD K d [(9, f9), (11, f11), (16, f16), (17, f17), (18, f18)]) (e9 : Ent P w K mg base S C 9 f9) (e11 : Ent P w K mg base S C 11 f11) (e16 : Ent P w K mg base S C 16 f16) (e17 : Ent P w K mg base S C 17 f17) (e18 : Ent P w K mg base S C 18 f18) : Tab P w K mg base S C 1 "WITH_ONE" := by
  obtain ⟨d, h1, h2⟩ := md
  refine ⟨d, _, h1, h2, fun j args y hy hl => ?_⟩
  rcases callN_1 hy hl with rfl | rfl | rfl | rfl | rfl
  · exact ⟨f9, rfl, e9⟩
  · exact ⟨f11, rfl, e11⟩
  · exact ⟨f16, rfl, e16⟩
  · exact ⟨f17, rfl, e17⟩
  · exact ⟨f18, rfl, e18⟩
theorem tab2 {f2 f3 f4 f5 f12 : Addr} (md : ∃ d, mg "WITH_TWO" = some (.ref d) ∧ MdD K d [(2, f2), (3, f3), (4, f4), (5, f5), (12, f12)]) (e2 : Ent P w K mg base S C 2 f2) (e3 : Ent P w K mg base S C 3 f3) (e4 : Ent P w K mg base S C 4 f4) (e5 : Ent P w K mg base S C 5 f5) (e12 : Ent P w K mg base S C 12 f12) : Tab P w K mg base S C 2 "WITH_TWO" := by
  obtain ⟨d, h1, h2⟩ := md
  refine ⟨d, _, h1, h2, fun j args y hy hl => ?_⟩
  rcases callN_2 hy hl with rfl | rfl | rfl | rfl | rfl
  · exact ⟨f2, rfl, e2⟩
  · exact ⟨f3, rfl, e3⟩
  · exact ⟨f4, rfl, e4⟩
  · exact ⟨f5, rfl, e5⟩
  · exact ⟨f12, rfl, e12⟩
theorem tab3 {f1 : Addr} (md : ∃ d, mg "WITH_THREE" = some (.ref d) ∧ MdD K d [(1, f1)]) (e1 : Ent P w K mg base S C 1 f1) : Tab P w K mg base S C 3 "WITH_THREE" := by
  obtain ⟨d, h1, h2⟩ := md
  refine ⟨d, _, h1, h2, fun j args y hy hl => ?_⟩
  obtain rfl := callN_3 hy hl
  exact ⟨f1, rfl, e1⟩
theorem hmk0 {j : Nat} {mk : List Nat → Kp243.Call} (h0 : call0 j = some (mk [])) (h1 : ∀ a, call1 j a = none) (h2 : ∀ a b, call2 j a b = none) (h3 : ∀ a b c, call3 j a b c = none) : ∀ args y, callN j args = some y → args.length = 0 ∧ mk args = y := fun args y h => by
  match args, h with
  | [], h => exact ⟨rfl, Option.some.inj ((h0).symm.trans h)⟩
  | [a], h => exact absurd ((h1 a).symm.trans h) (by simp)
  | [a, b], h => exact absurd ((h2 a b).symm.trans h) (by simp)
  | [a, b, c], h => exact absurd ((h3 a b c).symm.trans h) (by simp)
  | _ :: _ :: _ :: _ :: _, h => cases h
theorem hmk1 {j : Nat} {mk : List Nat → Kp243.Call} (h0 : call0 j = none) (h1 : ∀ a, call1 j a = some (mk [a])) (h2 : ∀ a b, call2 j a b = none) (h3 : ∀ a b c, call3 j a b c = none) : ∀ args y, callN j args = some y → args.length = 1 ∧ mk args = y := fun args y h => by
  match args, h with
  | [], h => exact absurd ((h0).symm.trans h) (by simp)
  | [a], h => exact ⟨rfl, Option.some.inj ((h1 a).symm.trans h)⟩
  | [a, b], h => exact absurd ((h2 a b).symm.trans h) (by simp)
  | [a, b, c], h => exact absurd ((h3 a b c).symm.trans h) (by simp)
  | _ :: _ :: _ :: _ :: _, h => cases h
theorem hmk2 {j : Nat} {mk : List Nat → Kp243.Call} (h0 : call0 j = none) (h1 : ∀ a, call1 j a = none) (h2 : ∀ a b, call2 j a b = some (mk [a, b])) (h3 : ∀ a b c, call3 j a b c = none) : ∀ args y, callN j args = some y → args.length = 2 ∧ mk args = y := fun args y h => by
  match args, h with
  | [], h => exact absurd ((h0).symm.trans h) (by simp)
  | [a], h => exact absurd ((h1 a).symm.trans h) (by simp)
  | [a, b], h => exact ⟨rfl, Option.some.inj ((h2 a b).symm.trans h)⟩
  | [a, b, c], h => exact absurd ((h3 a b c).symm.trans h) (by simp)
  | _ :: _ :: _ :: _ :: _, h => cases h
theorem hmk3 {j : Nat} {mk : List Nat → Kp243.Call} (h0 : call0 j = none) (h1 : ∀ a, call1 j a = none) (h2 : ∀ a b, call2 j a b = none) (h3 : ∀ a b c, call3 j a b c = some (mk [a, b, c])) : ∀ args y, callN j args = some y → args.length = 3 ∧ mk args = y := fun args y h => by
  match args, h with
  | [], h => exact absurd ((h0).symm.trans h) (by simp)
  | [a], h => exact absurd ((h1 a).symm.trans h) (by simp)
  | [a, b], h => exact absurd ((h2 a b).symm.trans h) (by simp)
  | [a, b, c], h => exact ⟨rfl, Option.some.inj ((h3 a b c).symm.trans h)⟩
  | _ :: _ :: _ :: _ :: _, h => cases h
theorem whole {f fS fC : Addr} {fd fdS fdC : FuncData} {f0 f6 f7 f8 f10 f13 f14 f15 f19 f9 f11 f16 f17 f18 f2 f3 f4 f5 f12 f1 : Addr} (T : Txt K mg S C) (Z : Szs K mg) (MS : Mk K S fS) (FS : Fun K "__init__" "Section.__init__" sSecInit fS fdS) (MC : Mk K C fC) (FC : Fun K "__init__" "Cable.__init__" sCabInit fC fdC) (L : Lows K mg)
    (h0 : Tb0 K mg f0 f6 f7 f8 f10 f13 f14 f15 f19) (h1 : Tb1 K mg f9 f11 f16 f17 f18) (h2 : Tb2 K mg f2 f3 f4 f5 f12) (h3 : Tb3 K mg f1)
    (F : Fun K "answers" "answers" sAnswers f fd) : FnOk P w K mg base CX0 9 f fd ["calls"] (spAnswers K) := by
  obtain ⟨_, t_resistance⟩ := L.resistance_
  obtain ⟨_, t_all_resistance⟩ := L.all_resistance_
  obtain ⟨_, t_ahead⟩ := L.ahead_
  obtain ⟨_, t_behind⟩ := L.behind_
  obtain ⟨_, t_is_cost⟩ := L.is_cost_
  obtain ⟨_, t_start_over⟩ := L.start_over_
  obtain ⟨_, t_fits⟩ := L.fits_
  obtain ⟨_, t_may_be⟩ := L.may_be_
  obtain ⟨_, t_left_by_measure⟩ := L.left_by_measure_
  obtain ⟨_, t_left_by_other⟩ := L.left_by_other_
  obtain ⟨_, t_narrow⟩ := L.narrow_
  obtain ⟨_, t_can_be_opened⟩ := L.can_be_opened_
  obtain ⟨_, t_costs_by_first⟩ := L.costs_by_first_
  obtain ⟨_, t_best_costs⟩ := L.best_costs_
  obtain ⟨_, t_opens_first⟩ := L.opens_first_
  obtain ⟨_, t_prices_of⟩ := L.prices_of_
  obtain ⟨_, t_sum_of_metres⟩ := L.sum_of_metres_
  obtain ⟨_, t_metres_for⟩ := L.metres_for_
  obtain ⟨_, t_answer⟩ := L.answer_
  have GS := ok_sec_init (P := P) (w := w) (mg := mg) (base := base) T FS
  have bS : Binds K fdS ["self", "metres", "each", "opens"] [] := FS.binds fun _ _ _ _ _ _ us hl => match us, hl with | [_, _, _, _], _ => rfl
  have GC := ok_cab_init (P := P) (w := w) (mg := mg) (base := base) T FC
  have bC : Binds K fdC ["self"] [] := FC.binds fun _ _ _ _ _ _ us hl => match us, hl with | [_], _ => rfl
  have dRes := d_resistance (P := P) (w := w) (base := base) T t_resistance
  have dAll := d_all_resistance T dRes t_all_resistance
  have dAh : Def P w K mg base 3 "ahead" ["cable", "i"] (spRd1 S C fun c i => .int (Kp243.ahead c i : Nat)) := t_ahead.def (fun _ => ok_ahead T dAll) fun _ _ _ _ _ _ us hl => match us, hl with | [_, _], _ => rfl
  have dBe : Def P w K mg base 3 "behind" ["cable", "i"] (spRd1 S C fun c i => .int (bhd c i : Nat)) := t_behind.def (fun _ => ok_behind T dAll) fun _ _ _ _ _ _ us hl => match us, hl with | [_, _], _ => rfl
  have dIs := d_is_cost (P := P) (w := w) (base := base) T t_is_cost
  have dOver := d_over (P := P) (w := w) (base := base) T t_start_over
  have dFits := d_fits (P := P) (w := w) (base := base) t_fits
  have dMay := d_may_be (P := P) (w := w) (base := base) T t_may_be
  have dLM := d_left_m T dMay dFits dAh dRes t_left_by_measure
  have dLO := d_left_o T dMay dFits dBe dRes t_left_by_other
  have dNar := d_narrow (P := P) (w := w) (base := base) T t_narrow
  have dCan := d_can (P := P) (w := w) (base := base) T t_can_be_opened
  have dCosts := d_costs (P := P) (w := w) (base := base) T t_costs_by_first
  have dBest := d_best T dCosts t_best_costs
  have dOF := d_opens_first T dCosts t_opens_first
  have dPr := d_prices_of (P := P) (w := w) (base := base) T t_prices_of
  have dSumM := d_sum_m (P := P) (w := w) (base := base) T t_sum_of_metres
  have dFor := d_metres_for (P := P) (w := w) (base := base) T t_metres_for
  have e0 : Ent P w K mg base S C 0 f0 := entry0 h0.t0 fun _ => ok_begin T dOver
  have e6 : Ent P w K mg base S C 6 f6 := entry h0.t6 (fun _ => ok_where T dMay) (by decide) (by decide) (hmk0 rfl (fun _ => rfl) (fun _ _ => rfl) fun _ _ _ => rfl) fun _ _ _ _ _ _ us hl => match us, hl with | [_], _ => rfl
  have e7 : Ent P w K mg base S C 7 f7 := entry h0.t7 (fun _ => ok_least T dPr dBest) (by decide) (by decide) (hmk0 rfl (fun _ => rfl) (fun _ _ => rfl) fun _ _ _ => rfl) fun _ _ _ _ _ _ us hl => match us, hl with | [_], _ => rfl
  have e8 : Ent P w K mg base S C 8 f8 := entry h0.t8 (fun _ => ok_first T dPr dBest dOF) (by decide) (by decide) (hmk0 rfl (fun _ => rfl) (fun _ _ => rfl) fun _ _ _ => rfl) fun _ _ _ _ _ _ us hl => match us, hl with | [_], _ => rfl
  have e10 : Ent P w K mg base S C 10 f10 := entry h0.t10 (fun _ => ok_fewest T dBest) (by decide) (by decide) (hmk0 rfl (fun _ => rfl) (fun _ _ => rfl) fun _ _ _ => rfl) fun _ _ _ _ _ _ us hl => match us, hl with | [_], _ => rfl
  have e13 : Ent P w K mg base S C 13 f13 := entry h0.t13 (fun _ => ok_found T) (by decide) (by decide) (hmk0 rfl (fun _ => rfl) (fun _ _ => rfl) fun _ _ _ => rfl) fun _ _ _ _ _ _ us hl => match us, hl with | [_], _ => rfl
  have e14 : Ent P w K mg base S C 14 f14 := entry h0.t14 (fun _ => ok_again T dOver) (by decide) (by decide) (hmk0 rfl (fun _ => rfl) (fun _ _ => rfl) fun _ _ _ => rfl) fun _ _ _ _ _ _ us hl => match us, hl with | [_], _ => rfl
  have e15 : Ent P w K mg base S C 15 f15 := entry h0.t15 (fun _ => ok_all_metres T dSumM dAll) (by decide) (by decide) (hmk0 rfl (fun _ => rfl) (fun _ _ => rfl) fun _ _ _ => rfl) fun _ _ _ _ _ _ us hl => match us, hl with | [_], _ => rfl
  have e19 : Ent P w K mg base S C 19 f19 := entry h0.t19 (fun _ => ok_sums T) (by decide) (by decide) (hmk0 rfl (fun _ => rfl) (fun _ _ => rfl) fun _ _ _ => rfl) fun _ _ _ _ _ _ us hl => match us, hl with | [_], _ => rfl
  have T0 := tab0 h0.md e0 e6 e7 e8 e10 e13 e14 e15 e19
  have e9 : Ent P w K mg base S C 9 f9 := entry h1.t9 (fun _ => ok_would T dCan dPr dBest dCosts) (by decide) (by decide) (hmk1 rfl (fun _ => rfl) (fun _ _ => rfl) fun _ _ _ => rfl) fun _ _ _ _ _ _ us hl => match us, hl with | [_, _], _ => rfl
  have e11 : Ent P w K mg base S C 11 f11 := entry h1.t11 (fun _ => ok_spends T dPr dBest dOF) (by decide) (by decide) (hmk1 rfl (fun _ => rfl) (fun _ _ => rfl) fun _ _ _ => rfl) fun _ _ _ _ _ _ us hl => match us, hl with | [_, _], _ => rfl
  have e16 : Ent P w K mg base S C 16 f16 := entry h1.t16 (fun _ => ok_resist T dRes dAh dBe) (by decide) (by decide) (hmk1 rfl (fun _ => rfl) (fun _ _ => rfl) fun _ _ _ => rfl) fun _ _ _ _ _ _ us hl => match us, hl with | [_, _], _ => rfl
  have e17 : Ent P w K mg base S C 17 f17 := entry h1.t17 (fun _ => ok_point T dSumM dAll dAh dFor) (by decide) (by decide) (hmk1 rfl (fun _ => rfl) (fun _ _ => rfl) fun _ _ _ => rfl) fun _ _ _ _ _ _ us hl => match us, hl with | [_, _], _ => rfl
  have e18 : Ent P w K mg base S C 18 f18 := entry h1.t18 (fun _ => ok_look T) (by decide) (by decide) (hmk1 rfl (fun _ => rfl) (fun _ _ => rfl) fun _ _ _ => rfl) fun _ _ _ _ _ _ us hl => match us, hl with | [_, _], _ => rfl
  have T1 := tab1 h1.md e9 e11 e16 e17 e18
  have e2 : Ent P w K mg base S C 2 f2 := entry h2.t2 (fun _ => ok_cost T dIs) (by decide) (by decide) (hmk2 rfl (fun _ => rfl) (fun _ _ => rfl) fun _ _ _ => rfl) fun _ _ _ _ _ _ us hl => match us, hl with | [_, _, _], _ => rfl
  have e3 : Ent P w K mg base S C 3 f3 := entry h2.t3 (fun _ => ok_measure T dNar dLM) (by decide) (by decide) (hmk2 rfl (fun _ => rfl) (fun _ _ => rfl) fun _ _ _ => rfl) fun _ _ _ _ _ _ us hl => match us, hl with | [_, _, _], _ => rfl
  have e4 : Ent P w K mg base S C 4 f4 := entry h2.t4 (fun _ => ok_other T dNar dLO) (by decide) (by decide) (hmk2 rfl (fun _ => rfl) (fun _ _ => rfl) fun _ _ _ => rfl) fun _ _ _ _ _ _ us hl => match us, hl with | [_, _, _], _ => rfl
  have e5 : Ent P w K mg base S C 5 f5 := entry h2.t5 (fun _ => ok_could T dLM) (by decide) (by decide) (hmk2 rfl (fun _ => rfl) (fun _ _ => rfl) fun _ _ _ => rfl) fun _ _ _ _ _ _ us hl => match us, hl with | [_, _, _], _ => rfl
  have e12 : Ent P w K mg base S C 12 f12 := entry h2.t12 (fun _ => ok_open_at T dCan) (by decide) (by decide) (hmk2 rfl (fun _ => rfl) (fun _ _ => rfl) fun _ _ _ => rfl) fun _ _ _ _ _ _ us hl => match us, hl with | [_, _, _], _ => rfl
  have T2 := tab2 h2.md e2 e3 e4 e5 e12
  have e1 : Ent P w K mg base S C 1 f1 := entry h3.t1 (fun _ => ok_section T dIs MS GS bS) (by decide) (by decide) (hmk3 rfl (fun _ => rfl) (fun _ _ => rfl) fun _ _ _ => rfl) fun _ _ _ _ _ _ us hl => match us, hl with | [_, _, _, _], _ => rfl
  have T3 := tab3 h3.md e1
  have dA : Def P w K mg base 7 "answer" ["cable", "number", "given"] (spAnswer S C) := t_answer.def (fun _ => ok_answer T T0 T1 T2 T3) fun _ _ _ _ _ _ us hl => match us, hl with | [_, _, _], _ => rfl
  exact ok_answers T Z MC GC bC (dA.mono (by decide)) F
end
end Ff


set_option Elab.async false
set_option linter.all false
set_option maxRecDepth 100000
set_option maxHeartbeats 2000000
/-! What the top has written, and the row. -/
namespace Ff
open PySem PySem.Spec PyProof.Rows L2
section
variable {K : PySem.W.Frag} {h : Heap} {mg : Str → Option Value}
theorem tf_mk (X : K.In h) (G : h.Ns mainGlobals mg) {x : Str} {st : Stmt} {f : Addr} {oc : Value} {od an : Option Addr} {osl : Array (Option Value)} {kV doc pm cdv ct : Value}
    (a : PySem.W.nsIn K mainGlobals x = some (some (.ref f))) (l : K.lookup f = some ⟨oc, od, .func (PySem.W.fnOf x x (defArgs st) (defBody st) (defScope st) .none kV doc pm an cdv ct), osl⟩) (c : PySem.W.codeIn K cdv x = true) (k : PySem.W.keepIn K (.ref f) = true) : TF K mg x st f :=
  ⟨⟨_, fun_mk l c k⟩, PySem.W.mg_of X G a⟩
theorem ci_mk (X : K.In h) (G : h.Ns mainGlobals mg) {x : Str} {i : Int} {t : Tok} (a : PySem.W.nsIn K mainGlobals x = some (some (.int i t))) : CI mg x i := ⟨t, PySem.W.mg_of X G a⟩
theorem md_mk (X : K.In h) (G : h.Ns mainGlobals mg) {x : Str} {d : Addr} (tb : List (Int × Addr)) {es : Array DictEntry} {ep : Nat}
    (a : PySem.W.nsIn K mainGlobals x = some (some (.ref d))) (l : K.lookup d = some ⟨.type "dict", none, .dict es ep, #[]⟩) (e : MdE es.toList tb) (nd : (tb.map (·.1)).Nodup) : ∃ d, mg x = some (.ref d) ∧ MdD K d tb :=
  ⟨d, PySem.W.mg_of X G a, ⟨⟨_, es, ep, l, ⟨rfl, rfl, rfl⟩, rfl, e⟩, nd⟩⟩
/-- a tuple of whole numbers of the module -/
def TuE : List Value → List Nat → Prop
  | [], [] => True
  | v :: vs, n :: ns => (∃ t, v = .int (n : Nat) t) ∧ TuE vs ns
  | _, _ => False
theorem tuE_vals : ∀ {vs : List Value} {ns : List Nat}, TuE vs ns → Vals (nV ns) vs
  | [], [], _ => .nil
  | v :: vs, n :: ns, h => .cons h.1 (tuE_vals h.2)
  | [], _ :: _, h => (show False from h).elim
  | _ :: _, [], h => (show False from h).elim
theorem szs_mk (X : K.In h) (G : h.Ns mainGlobals mg) {d : Addr} {its : Array Value} {n : Nat} {dd : Option Addr} {sl : Array (Option Value)}
    (a : PySem.W.nsIn K mainGlobals "SIZES" = some (some (.ref d))) (l : K.lookup d = some ⟨.type "tuple", dd, .seq its n, sl⟩) (z : its.size ≤ 1000) (e : TuE its.toList sizes) : Szs K mg :=
  ⟨⟨d, PySem.W.mg_of X G a, fun H => .inr ⟨_, its, n, l, rfl, rfl, Nat.le_of_lt (small1000 z), tuE_vals e⟩⟩⟩
/-- a class and its __init__ -/
structure CT (K : PySem.W.Frag) (mg : Str → Option Value) (x q : Str) (st : Stmt) (na : List Str) (C f : Addr) (fd : FuncData) : Prop where
  cl : Cls K C
  na : ∀ y ∈ na, NoAttr K C y
  mg : mg x = some (.ref C)
  mks : Mk K C f
  fn : Fun K "__init__" q st f fd
theorem ct_mk (X : K.In h) (G : h.Ns mainGlobals mg) {x q : Str} {st : Stmt} {na : List Str} {C f : Addr} {oc : Value} {od an : Option Addr} {osl : Array (Option Value)} {kV doc pm cdv ct : Value}
    (a : PySem.W.nsIn K mainGlobals x = some (some (.ref C))) (pg : PySem.W.plainGet K C Str.empty = true) (hd : PySem.W.hasDictIn K C = true) (po : PySem.W.plainOver K C = true) (sa : PySem.W.findIn K (.ref C) "__setattr__" = some (some (.builtin "object.__setattr__")))
    (mk : PySem.W.makesIn K C = true) (kc : PySem.W.keepIn K (.ref C) = true) (nas : ∀ y ∈ na, PySem.W.findIn K (.ref C) y = some none)
    (ai : PySem.W.findIn K (.ref C) "__init__" = some (some (.ref f))) (ii : PySem.W.isFn K (.ref f) = true) (l : K.lookup f = some ⟨oc, od, .func (PySem.W.fnOf "__init__" q (defArgs st) (defBody st) (defScope st) .none kV doc pm an cdv ct), osl⟩)
    (c : PySem.W.codeIn K cdv q = true) (k : PySem.W.keepIn K (.ref f) = true) : ∃ C f fd, CT K mg x q st na C f fd :=
  ⟨C, f, _, ⟨pg, hd, po, sa⟩, nas, PySem.W.mg_of X G a, ⟨mk, ai, ii, kc⟩, fun_mk l c k⟩
theorem na2 {P : Str → Prop} {a b : Str} (h1 : P a) (h2 : P b) : ∀ y ∈ [a, b], P y := fun y hy => by
  rcases List.mem_cons.mp hy with e | hy
  · rw [e]; exact h1
  · rw [List.mem_singleton.mp hy]; exact h2
theorem naN {P : Str → Prop} : ∀ y ∈ ([] : List Str), P y := fun y hy => nomatch hy
theorem naC {P : Str → Prop} {a : Str} {l : List Str} (h1 : P a) (h2 : ∀ y ∈ l, P y) : ∀ y ∈ a :: l, P y := fun y hy => by
  rcases List.mem_cons.mp hy with e | hy
  · rw [e]; exact h1
  · exact h2 y hy
end
end Ff
open PySem PySem.W PyProof.Rows
set_option maxRecDepth 100000 in
set_option maxHeartbeats 0 in
theorem PySem.Challenge.cw_faultfind_s01_answers_holds : PySem.Challenge.rw_faultfind_s01_answers.Holds := by
  w_on; k_headS; (case hw => exact ⟨[.list [.int 0]], by decide +kernel, by decide +kernel⟩)
  k_fillS
  refine L2.walk_specK (r := PySem.Challenge.rw_faultfind_s01_answers) (k := 9) (CX := L2.CX0) (ps := ["calls"]) (sp := Ff.spAnswers) (by decide +kernel) rfl rfl ⟨rfl, by decide, by decide⟩ (fun w h Y => PySem.W.kIn_of Y) ?F ?S (fun _ _ _ _ z => z)
  case F =>
    intro w mg fa h Y KX G hmg
    have ctS : ∃ S f fd, Ff.CT (L2.KOf KX) mg "Section" "Section.__init__" Ff.sSecInit ["metres", "each", "opens"] S f fd := by
      dsimp only [L2.KOf]
      refine' Ff.ct_mk KX G ?a ?pg ?hd ?po ?sa ?mk ?kc (Ff.naC ?n1 (Ff.naC ?n2 (Ff.naC ?n3 Ff.naN))) ?ai ?ii ?l ?c ?k
      (case a => k_is); (case pg => k_is); (case hd => k_is); (case po => k_is); (case sa => k_is); (case mk => k_is); (case kc => k_is); (case n1 => k_is); (case n2 => k_is); (case n3 => k_is); (case ai => k_is); (case ii => k_is); (case l => k_is); (case c => k_is); (case k => k_is)
    have ctC : ∃ S f fd, Ff.CT (L2.KOf KX) mg "Cable" "Cable.__init__" Ff.sCabInit ["begun", "sections", "low", "high", "openings", "spent"] S f fd := by
      dsimp only [L2.KOf]
      refine' Ff.ct_mk KX G ?a ?pg ?hd ?po ?sa ?mk ?kc (Ff.naC ?n1 (Ff.naC ?n2 (Ff.naC ?n3 (Ff.naC ?n4 (Ff.naC ?n5 (Ff.naC ?n6 Ff.naN)))))) ?ai ?ii ?l ?c ?k
      (case a => k_is); (case pg => k_is); (case hd => k_is); (case po => k_is); (case sa => k_is); (case mk => k_is); (case kc => k_is); (case n1 => k_is); (case n2 => k_is); (case n3 => k_is); (case n4 => k_is); (case n5 => k_is); (case n6 => k_is); (case ai => k_is); (case ii => k_is); (case l => k_is); (case c => k_is); (case k => k_is)
    have szs : Ff.Szs (L2.KOf KX) mg := by
      dsimp only [L2.KOf]
      refine' Ff.szs_mk KX G ?a ?l ?z ?e
      (case a => k_is); (case l => k_is); (case z => decide)
      (case e => exact ⟨⟨_, rfl⟩, ⟨_, rfl⟩, ⟨_, rfl⟩, ⟨_, rfl⟩, ⟨_, rfl⟩, ⟨_, rfl⟩, ⟨_, rfl⟩, ⟨_, rfl⟩, ⟨_, rfl⟩, ⟨_, rfl⟩, ⟨_, rfl⟩, ⟨_, rfl⟩, ⟨_, rfl⟩, ⟨_, rfl⟩, ⟨_, rfl⟩, ⟨_, rfl⟩, ⟨_, rfl⟩, ⟨_, rfl⟩, ⟨_, rfl⟩, ⟨_, rfl⟩, trivial⟩)
    have cons : Ff.CI mg "MOST_OPENS" 1000 ∧ Ff.CI mg "MOST_SECTIONS" 10 ∧ Ff.CI mg "MOST_METRES" 1000 ∧ Ff.CI mg "MOST_EACH" 100 ∧ Ff.CI mg "NO_SUCH" (-2) ∧ Ff.CI mg "NOT_BEGUN" (-11) ∧ Ff.CI mg "NOT_IN_ALL" (-16) ∧ Ff.CI mg "OUT_OF_BOUNDS" (-22) ∧ Ff.CI mg "FULL" (-28) ∧ Ff.CI mg "NO_ANSWER" (-33) ∧ Ff.CI mg "BEGIN" 0 := by
      refine' ⟨Ff.ci_mk KX G ?c0, Ff.ci_mk KX G ?c1, Ff.ci_mk KX G ?c2, Ff.ci_mk KX G ?c3, Ff.ci_mk KX G ?c4, Ff.ci_mk KX G ?c5, Ff.ci_mk KX G ?c6, Ff.ci_mk KX G ?c7, Ff.ci_mk KX G ?c8, Ff.ci_mk KX G ?c9, Ff.ci_mk KX G ?c10⟩
      (case c0 => k_is); (case c1 => k_is); (case c2 => k_is); (case c3 => k_is); (case c4 => k_is); (case c5 => k_is); (case c6 => k_is); (case c7 => k_is); (case c8 => k_is); (case c9 => k_is); (case c10 => k_is)
    have blts : mg "sum" = none ∧ mg "list" = none ∧ mg "range" = none ∧ mg "len" = none ∧ mg "min" = none ∧ mg "max" = none := by
      refine' ⟨PySem.W.mg_none_of KX G ?b0, PySem.W.mg_none_of KX G ?b1, PySem.W.mg_none_of KX G ?b2, PySem.W.mg_none_of KX G ?b3, PySem.W.mg_none_of KX G ?b4, PySem.W.mg_none_of KX G ?b5⟩
      (case b0 => k_is); (case b1 => k_is); (case b2 => k_is); (case b3 => k_is); (case b4 => k_is); (case b5 => k_is)
    have l_resistance : ∃ f, Ff.TF (L2.KOf KX) mg "resistance" Ff.sResistance f := by
      dsimp only [L2.KOf]
      refine' ⟨_, Ff.tf_mk KX G ?a ?l ?c ?k⟩
      (case a => k_is); (case l => k_is); (case c => k_is); (case k => k_is)
    have l_all_resistance : ∃ f, Ff.TF (L2.KOf KX) mg "all_resistance" Ff.sAllResistance f := by
      dsimp only [L2.KOf]
      refine' ⟨_, Ff.tf_mk KX G ?a ?l ?c ?k⟩
      (case a => k_is); (case l => k_is); (case c => k_is); (case k => k_is)
    have l_ahead : ∃ f, Ff.TF (L2.KOf KX) mg "ahead" Ff.sAhead f := by
      dsimp only [L2.KOf]
      refine' ⟨_, Ff.tf_mk KX G ?a ?l ?c ?k⟩
      (case a => k_is); (case l => k_is); (case c => k_is); (case k => k_is)
    have l_behind : ∃ f, Ff.TF (L2.KOf KX) mg "behind" Ff.sBehind f := by
      dsimp only [L2.KOf]
      refine' ⟨_, Ff.tf_mk KX G ?a ?l ?c ?k⟩
      (case a => k_is); (case l => k_is); (case c => k_is); (case k => k_is)
    have l_is_cost : ∃ f, Ff.TF (L2.KOf KX) mg "is_cost" Ff.sIsCost f := by
      dsimp only [L2.KOf]
      refine' ⟨_, Ff.tf_mk KX G ?a ?l ?c ?k⟩
      (case a => k_is); (case l => k_is); (case c => k_is); (case k => k_is)
    have l_start_over : ∃ f, Ff.TF (L2.KOf KX) mg "start_over" Ff.sOver f := by
      dsimp only [L2.KOf]
      refine' ⟨_, Ff.tf_mk KX G ?a ?l ?c ?k⟩
      (case a => k_is); (case l => k_is); (case c => k_is); (case k => k_is)
    have l_fits : ∃ f, Ff.TF (L2.KOf KX) mg "fits" Ff.sFits f := by
      dsimp only [L2.KOf]
      refine' ⟨_, Ff.tf_mk KX G ?a ?l ?c ?k⟩
      (case a => k_is); (case l => k_is); (case c => k_is); (case k => k_is)
    have l_may_be : ∃ f, Ff.TF (L2.KOf KX) mg "may_be" Ff.sMayBe f := by
      dsimp only [L2.KOf]
      refine' ⟨_, Ff.tf_mk KX G ?a ?l ?c ?k⟩
      (case a => k_is); (case l => k_is); (case c => k_is); (case k => k_is)
    have l_left_by_measure : ∃ f, Ff.TF (L2.KOf KX) mg "left_by_measure" Ff.sLeftM f := by
      dsimp only [L2.KOf]
      refine' ⟨_, Ff.tf_mk KX G ?a ?l ?c ?k⟩
      (case a => k_is); (case l => k_is); (case c => k_is); (case k => k_is)
    have l_left_by_other : ∃ f, Ff.TF (L2.KOf KX) mg "left_by_other" Ff.sLeftO f := by
      dsimp only [L2.KOf]
      refine' ⟨_, Ff.tf_mk KX G ?a ?l ?c ?k⟩
      (case a => k_is); (case l => k_is); (case c => k_is); (case k => k_is)
    have l_narrow : ∃ f, Ff.TF (L2.KOf KX) mg "narrow" Ff.sNarrow f := by
      dsimp only [L2.KOf]
      refine' ⟨_, Ff.tf_mk KX G ?a ?l ?c ?k⟩
      (case a => k_is); (case l => k_is); (case c => k_is); (case k => k_is)
    have l_can_be_opened : ∃ f, Ff.TF (L2.KOf KX) mg "can_be_opened" Ff.sCan f := by
      dsimp only [L2.KOf]
      refine' ⟨_, Ff.tf_mk KX G ?a ?l ?c ?k⟩
      (case a => k_is); (case l => k_is); (case c => k_is); (case k => k_is)
    have l_costs_by_first : ∃ f, Ff.TF (L2.KOf KX) mg "costs_by_first" Ff.sCosts f := by
      dsimp only [L2.KOf]
      refine' ⟨_, Ff.tf_mk KX G ?a ?l ?c ?k⟩
      (case a => k_is); (case l => k_is); (case c => k_is); (case k => k_is)
    have l_best_costs : ∃ f, Ff.TF (L2.KOf KX) mg "best_costs" Ff.sBest f := by
      dsimp only [L2.KOf]
      refine' ⟨_, Ff.tf_mk KX G ?a ?l ?c ?k⟩
      (case a => k_is); (case l => k_is); (case c => k_is); (case k => k_is)
    have l_opens_first : ∃ f, Ff.TF (L2.KOf KX) mg "opens_first" Ff.sOpensFirst f := by
      dsimp only [L2.KOf]
      refine' ⟨_, Ff.tf_mk KX G ?a ?l ?c ?k⟩
      (case a => k_is); (case l => k_is); (case c => k_is); (case k => k_is)
    have l_prices_of : ∃ f, Ff.TF (L2.KOf KX) mg "prices_of" Ff.sPricesOf f := by
      dsimp only [L2.KOf]
      refine' ⟨_, Ff.tf_mk KX G ?a ?l ?c ?k⟩
      (case a => k_is); (case l => k_is); (case c => k_is); (case k => k_is)
    have l_sum_of_metres : ∃ f, Ff.TF (L2.KOf KX) mg "sum_of_metres" Ff.sSumM f := by
      dsimp only [L2.KOf]
      refine' ⟨_, Ff.tf_mk KX G ?a ?l ?c ?k⟩
      (case a => k_is); (case l => k_is); (case c => k_is); (case k => k_is)
    have l_metres_for : ∃ f, Ff.TF (L2.KOf KX) mg "metres_for" Ff.sMetresFor f := by
      dsimp only [L2.KOf]
      refine' ⟨_, Ff.tf_mk KX G ?a ?l ?c ?k⟩
      (case a => k_is); (case l => k_is); (case c => k_is); (case k => k_is)
    have l_answer : ∃ f, Ff.TF (L2.KOf KX) mg "answer" Ff.sAnswer f := by
      dsimp only [L2.KOf]
      refine' ⟨_, Ff.tf_mk KX G ?a ?l ?c ?k⟩
      (case a => k_is); (case l => k_is); (case c => k_is); (case k => k_is)
    have tAns : ∃ f, Ff.TF (L2.KOf KX) mg "answers" Ff.sAnswers f := by
      dsimp only [L2.KOf]
      refine' ⟨_, Ff.tf_mk KX G ?a ?l ?c ?k⟩
      (case a => k_is); (case l => k_is); (case c => k_is); (case k => k_is)
    have tb0 : ∃ f0 f6 f7 f8 f10 f13 f14 f15 f19 : Addr, Ff.Tb0 (L2.KOf KX) mg f0 f6 f7 f8 f10 f13 f14 f15 f19 := by
      dsimp only [L2.KOf]
      refine' ⟨_, _, _, _, _, _, _, _, _, ⟨Ff.tf_mk KX G ?a0 ?l0 ?c0 ?k0, Ff.tf_mk KX G ?a6 ?l6 ?c6 ?k6, Ff.tf_mk KX G ?a7 ?l7 ?c7 ?k7, Ff.tf_mk KX G ?a8 ?l8 ?c8 ?k8, Ff.tf_mk KX G ?a10 ?l10 ?c10 ?k10, Ff.tf_mk KX G ?a13 ?l13 ?c13 ?k13, Ff.tf_mk KX G ?a14 ?l14 ?c14 ?k14, Ff.tf_mk KX G ?a15 ?l15 ?c15 ?k15, Ff.tf_mk KX G ?a19 ?l19 ?c19 ?k19, Ff.md_mk KX G _ ?a ?l ?e ?n⟩⟩
      (case a0 => k_is); (case l0 => k_is); (case c0 => k_is); (case k0 => k_is); (case a6 => k_is); (case l6 => k_is); (case c6 => k_is); (case k6 => k_is); (case a7 => k_is); (case l7 => k_is); (case c7 => k_is); (case k7 => k_is); (case a8 => k_is); (case l8 => k_is); (case c8 => k_is); (case k8 => k_is); (case a10 => k_is); (case l10 => k_is); (case c10 => k_is); (case k10 => k_is); (case a13 => k_is); (case l13 => k_is); (case c13 => k_is); (case k13 => k_is); (case a14 => k_is); (case l14 => k_is); (case c14 => k_is); (case k14 => k_is); (case a15 => k_is); (case l15 => k_is); (case c15 => k_is); (case k15 => k_is); (case a19 => k_is); (case l19 => k_is); (case c19 => k_is); (case k19 => k_is)
      (case a => k_is); (case l => k_is)
      (case e => exact ⟨⟨_, rfl⟩, rfl, rfl, ⟨_, rfl⟩, rfl, rfl, ⟨_, rfl⟩, rfl, rfl, ⟨_, rfl⟩, rfl, rfl, ⟨_, rfl⟩, rfl, rfl, ⟨_, rfl⟩, rfl, rfl, ⟨_, rfl⟩, rfl, rfl, ⟨_, rfl⟩, rfl, rfl, ⟨_, rfl⟩, rfl, rfl, trivial⟩)
      (case n => decide)
    have tb1 : ∃ f9 f11 f16 f17 f18 : Addr, Ff.Tb1 (L2.KOf KX) mg f9 f11 f16 f17 f18 := by
      dsimp only [L2.KOf]
      refine' ⟨_, _, _, _, _, ⟨Ff.tf_mk KX G ?a9 ?l9 ?c9 ?k9, Ff.tf_mk KX G ?a11 ?l11 ?c11 ?k11, Ff.tf_mk KX G ?a16 ?l16 ?c16 ?k16, Ff.tf_mk KX G ?a17 ?l17 ?c17 ?k17, Ff.tf_mk KX G ?a18 ?l18 ?c18 ?k18, Ff.md_mk KX G _ ?a ?l ?e ?n⟩⟩
      (case a9 => k_is); (case l9 => k_is); (case c9 => k_is); (case k9 => k_is); (case a11 => k_is); (case l11 => k_is); (case c11 => k_is); (case k11 => k_is); (case a16 => k_is); (case l16 => k_is); (case c16 => k_is); (case k16 => k_is); (case a17 => k_is); (case l17 => k_is); (case c17 => k_is); (case k17 => k_is); (case a18 => k_is); (case l18 => k_is); (case c18 => k_is); (case k18 => k_is)
      (case a => k_is); (case l => k_is)
      (case e => exact ⟨⟨_, rfl⟩, rfl, rfl, ⟨_, rfl⟩, rfl, rfl, ⟨_, rfl⟩, rfl, rfl, ⟨_, rfl⟩, rfl, rfl, ⟨_, rfl⟩, rfl, rfl, trivial⟩)
      (case n => decide)
    have tb2 : ∃ f2 f3 f4 f5 f12 : Addr, Ff.Tb2 (L2.KOf KX) mg f2 f3 f4 f5 f12 := by
      dsimp only [L2.KOf]
      refine' ⟨_, _, _, _, _, ⟨Ff.tf_mk KX G ?a2 ?l2 ?c2 ?k2, Ff.tf_mk KX G ?a3 ?l3 ?c3 ?k3, Ff.tf_mk KX G ?a4 ?l4 ?c4 ?k4, Ff.tf_mk KX G ?a5 ?l5 ?c5 ?k5, Ff.tf_mk KX G ?a12 ?l12 ?c12 ?k12, Ff.md_mk KX G _ ?a ?l ?e ?n⟩⟩
      (case a2 => k_is); (case l2 => k_is); (case c2 => k_is); (case k2 => k_is); (case a3 => k_is); (case l3 => k_is); (case c3 => k_is); (case k3 => k_is); (case a4 => k_is); (case l4 => k_is); (case c4 => k_is); (case k4 => k_is); (case a5 => k_is); (case l5 => k_is); (case c5 => k_is); (case k5 => k_is); (case a12 => k_is); (case l12 => k_is); (case c12 => k_is); (case k12 => k_is)
      (case a => k_is); (case l => k_is)
      (case e => exact ⟨⟨_, rfl⟩, rfl, rfl, ⟨_, rfl⟩, rfl, rfl, ⟨_, rfl⟩, rfl, rfl, ⟨_, rfl⟩, rfl, rfl, ⟨_, rfl⟩, rfl, rfl, trivial⟩)
      (case n => decide)
    have tb3 : ∃ f1 : Addr, Ff.Tb3 (L2.KOf KX) mg f1 := by
      dsimp only [L2.KOf]
      refine' ⟨_, ⟨Ff.tf_mk KX G ?a1 ?l1 ?c1 ?k1, Ff.md_mk KX G _ ?a ?l ?e ?n⟩⟩
      (case a1 => k_is); (case l1 => k_is); (case c1 => k_is); (case k1 => k_is)
      (case a => k_is); (case l => k_is)
      (case e => exact ⟨⟨_, rfl⟩, rfl, rfl, trivial⟩)
      (case n => decide)
    obtain ⟨S, fS, fdS, cS⟩ := ctS
    obtain ⟨C, fC, fdC, cC⟩ := ctC
    obtain ⟨c1, c2, c3, c4, c5, c6, c7, c8, c9, c10, c11⟩ := cons
    obtain ⟨b1, b2, b3, b4, b5, b6⟩ := blts
    obtain ⟨_, _, _, _, _, _, _, _, _, tb0⟩ := tb0
    obtain ⟨_, _, _, _, _, tb1⟩ := tb1
    obtain ⟨_, _, _, _, _, tb2⟩ := tb2
    obtain ⟨_, tb3⟩ := tb3
    have nS : ∀ y, y ∈ (["metres", "each", "opens"] : List Str) → L2.NoAttr (L2.KOf KX) S y := cS.na
    have nC : ∀ y, y ∈ (["begun", "sections", "low", "high", "openings", "spent"] : List Str) → L2.NoAttr (L2.KOf KX) C y := cC.na
    have T : Ff.Txt (L2.KOf KX) mg S C := {
      clS := cS.cl, clC := cC.cl, naM := nS _ (by simp), naE := nS _ (by simp), naO := nS _ (by simp), naB := nC _ (by simp), naS := nC _ (by simp), naL := nC _ (by simp), naH := nC _ (by simp), naN := nC _ (by simp), naP := nC _ (by simp),
      mgS := cS.mg, mgC := cC.mg, mOpens := c1, bSum := b1, bList := b2, bRange := b3, bLen := b4, bMin := b5, bMax := b6, mSections := c2, mMetres := c3, mEach := c4, mNoSuch := c5, mNotBegun := c6, mNotInAll := c7, mOut := c8, mFull := c9, mNoAnswer := c10, mBegin := c11 }
    have Lw : Ff.Lows (L2.KOf KX) mg := ⟨l_resistance, l_all_resistance, l_ahead, l_behind, l_is_cost, l_start_over, l_fits, l_may_be, l_left_by_measure, l_left_by_other, l_narrow, l_can_be_opened, l_costs_by_first, l_best_costs, l_opens_first, l_prices_of, l_sum_of_metres, l_metres_for, l_answer⟩
    obtain ⟨fA, tAns⟩ := tAns
    have e0 := hmg.symm.trans tAns.mg
    cases e0
    obtain ⟨fd, F⟩ := tAns.ex
    refine ⟨fd, ?b, fun base kb nb => ?g⟩
    case b =>
      obtain ⟨oc, od, kV, doc, pm, an, cdv, ct, osl, rfl, lk, hcd⟩ := F.ex
      exact fun s us hu => match us, hu with | [_], _ => .of_eq rfl
    case g => exact Ff.whole T szs cS.mks cS.fn cC.mks cC.fn Lw tb0 tb1 tb2 tb3 F
  case S =>
    intro K H xs a hO hwi hask hx
    cases hx with
    | cons h1 h2 =>
      cases h2
      cases h1 with
      | lst hs ha =>
        have e := L2.ints_dw a.1 _ ha
        subst e
        have q : ((Codec.inLen 0 320 a.1 && a.1.all (Codec.inInt 0 4294967295)) && true) = true := hwi
        rw [Bool.and_eq_true, Bool.and_eq_true] at q
        exact ⟨_, a.1, rfl, hO, hs, (Codec.inNat_iff.mp q.1.1).2, hask, fun H' p hp => .lst (L2.SqL.of hp) (L2.dw_ints _)⟩
